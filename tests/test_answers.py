"""The interface: how calls and answers lie in their lists, and that nothing is kept or changed."""

import unittest

from helper import LARGEST, ask, begins, level, rules, written
from writtensigns.house import UnknownCall, answers


class Answers(unittest.TestCase):
    def test_how_calls_and_answers_lie(self):
        calls = [0, 12, 2, 3, 2, 1, 2, 8, 32, 2, 4, 3, 0, 10, 0, 3, 0, 13, 0, 0, 12, 0, 2, 5]
        expected = [1, 3, 1, 0, 1, 1, 5, 2, 4, 0, 6, 0, 1, -1, 1, 1, 1, 1]
        self.assertEqual(answers(calls), expected)

    def test_any_call_may_be_first(self):
        self.assertEqual(answers([2, 64]), [1, 1])
        self.assertEqual(answers([3, 0, 128, 1]), [3, 1, 0, 0])
        self.assertEqual(answers([1, 20, 20, 256]), [1, 0])
        self.assertEqual(answers([0, 5, 1, 5]), [1, 2])

    def test_earlier_calls_count_for_later_ones(self):
        told = ask(level(48), begins(96, [3, 2]), level(48), written(16, 48), rules(1, 20, 32), written(16, 48, 0),
                   written(16, 48, 1), begins(96, [2, 3]), level(48), written(16, 48, 0))
        two_eighths = [2, 3, 0, 3, 0]
        quarter = [1, 2, 0]
        self.assertEqual(told, [[3], [3], [2], two_eighths, [0], quarter, two_eighths, [3], [1], quarter])

    def test_a_new_list_begins_anew(self):
        calls = [*level(64), *written(16, 48, 0), *written(16, 48, 1)]
        first = answers(calls)
        answers([*begins(5, [5]), *rules(0, 0, 1), *level(4)])
        self.assertEqual(answers(calls), first)
        self.assertEqual(first, [1, 1, 5, 2, 3, 0, 3, 0, 5, 2, 3, 0, 3, 0])

    def test_what_is_answered_is_not_kept(self):
        calls = [*begins(12, [3]), *written(0, 11)]
        first = answers(calls)
        kept = list(first)
        first.clear()
        self.assertEqual(answers(calls), kept)

    def test_the_list_handed_in_is_as_it_was(self):
        calls = [*begins(12, [3, 2]), *rules(1, 2, 3), *level(5), *written(1, 11, 1), *begins(7, [2]), *level(12)]
        copy = list(calls)
        answers(calls)
        self.assertEqual(calls, copy)

    def test_the_largest_numbers(self):
        told = ask(begins(LARGEST, [LARGEST] * 20), begins(128, [LARGEST] * 20), begins(LARGEST, []),
                   rules(LARGEST, LARGEST, LARGEST), level(LARGEST), written(LARGEST, LARGEST, 1),
                   written(0, LARGEST, 0), level(127), written(0, 128))
        self.assertEqual(told, [[-1]] * 7 + [[7], [1, 0, 0]])

    def test_a_hundred_calls_with_long_answers(self):
        told = ask(begins(256, []), *[written(1, 256, k % 2) for k in range(99)])
        self.assertEqual(told, [[1]] + [[255] + [7, 0] * 255] * 99)

    def test_answers_are_whole_numbers_in_a_list(self):
        told = answers([*begins(12, [3, 2]), *rules(1, 2, 3), *level(5), *written(1, 11, 1), *level(12)])
        self.assertIs(type(told), list)
        self.assertEqual({type(number) for number in told}, {int})

    def test_a_call_of_no_known_number(self):
        with self.assertRaises(UnknownCall):
            answers([8])


if __name__ == "__main__":
    unittest.main()
