"""The interface: how calls and answers lie in their lists, and that nothing is kept or changed."""

import unittest

from helper import LARGEST, ask, beams, begins, level, notes, rules, signs, tuplet, voice, written
from writtensigns.house import UnknownCall, answers


class Answers(unittest.TestCase):
    def test_how_calls_and_answers_lie(self):
        calls = [0, 12, 2, 3, 2, 1, 2, 8, 32, 2, 4, 3, 0, 10, 0, 3, 0, 13, 0, 0, 12, 0, 2, 5]
        expected = [1, 3, 1, 0, 1, 1, 5, 2, 4, 0, 6, 0, 1, -1, 1, 1, 1, 1]
        self.assertEqual(answers(calls), expected)

    def test_how_the_calls_with_items_lie(self):
        calls = [4, 4, 16, 0, 8, 1, 5, 4, 16, 0, 8, 0, 6, 3, 64, 4, 0, 5, 0, 4, 2, 0, 0, 6, 1, 129, 2, 64]
        expected = [15, 2, 0, 0, 3, 0, 0, 0, 0, 0, 16, 4, 0, 1, 0, 1, 7, 2, 1, 0, 1, 0, 1, 0, 4, 0, 2, 3, 2,
                    1, 0, 1, 0, 1, -1, 1, -6, 1, 1]
        self.assertEqual(answers(calls), expected)

    def test_how_signs_lies(self):
        told = answers([7, 2, 64, 7])
        self.assertEqual(told[:5], [64, 21, 0, 2, 224])
        self.assertEqual(told[62:67], [7, 0, 1, 1, 1])
        self.assertEqual(told[67:], told[:65])

    def test_any_call_may_be_first(self):
        self.assertEqual(answers([2, 64]), [1, 1])
        self.assertEqual(answers([3, 0, 128, 1]), [3, 1, 0, 0])
        self.assertEqual(answers([1, 20, 20, 256]), [1, 0])
        self.assertEqual(answers([0, 5, 1, 5]), [1, 2])
        self.assertEqual(answers([4, 2, 128, 1]), [8, 1, 0, 0, 0, 0, 1, 0, 0])
        self.assertEqual(answers([5, 2, 128, 1]), [4, 1, 0, 0, 0])
        self.assertEqual(answers([6, 3, 2]), [4, 0, 7, 3, 2])
        self.assertEqual(answers([7])[:2], [64, 21])

    def test_earlier_calls_count_for_later_ones(self):
        told = ask(level(48), begins(96, [3, 2]), level(48), written(16, 48), rules(1, 20, 32), written(16, 48, 0),
                   written(16, 48, 1), begins(96, [2, 3]), level(48), written(16, 48, 0))
        two_eighths = [2, 3, 0, 3, 0]
        quarter = [1, 2, 0]
        self.assertEqual(told, [[3], [3], [2], two_eighths, [0], quarter, two_eighths, [3], [1], quarter])

    def test_earlier_calls_count_for_voice_and_beams(self):
        items = notes(16, 16)
        in_two_bars = [3, 0, 0, 3, 0, 0, 0, 0, 0, 16, 4, 0, 0, 1, 1, 1, 0, 4, 0, 0, 0, 1]
        in_one_bar = [2, 0, 0, 3, 0, 0, 0, 0, 0, 16, 3, 0, 0, 0, 1]
        told = ask(voice(items), beams(items), begins(24, [3]), voice(items), beams(items), rules(8, 8, 16),
                   beams(items), begins(128, [2] * 7), voice(items), beams(items))
        self.assertEqual(told, [
            in_one_bar, [2, 1, 0, 1, 0, 0, 0], [2], in_two_bars, [3, 1, 0, 1, 0, 1, 0, 0, 0, 0], [0],
            [3, 0, 0, 0, 0, 0, 0, 0, 0, 0], [8], in_one_bar, [2, 0, 0, 0, 0, 0, 0]])

    def test_a_refused_metre_or_rules_leave_voice_and_beams(self):
        items = [(8, 0), (12, 0), (20, 1), (5, 0), (3, 0), (30, 0)]
        refused = [begins(0, []), begins(257, []), begins(128, [3]), begins(64, [2] * 7), begins(128, [2, 1]),
                   rules(21, 0, 32), rules(0, 21, 32), rules(0, 0, 0), rules(0, 0, 257), voice([(0, 0)]),
                   beams([(0, 0)]), tuplet(0, 1), tuplet(1, 129), level(LARGEST), written(1, 1)]
        for first in ([], [begins(24, [3, 2]), rules(2, 1, 12)]):
            expected = ask(*first, voice(items), beams(items))[len(first):]
            for call in refused:
                told = ask(*first, call, voice(items), beams(items))[len(first):]
                self.assertIn(told[0], ([-1], [-6]), call)
                self.assertEqual(told[1:], expected, (first, call))

    def test_voice_and_beams_dont_count_for_later_calls(self):
        items = notes(100, 100, 3)
        calls = [level(64), written(5, 77), voice(items), beams(items)]
        self.assertEqual(ask(*calls, *calls)[4:], ask(*calls))

    def test_a_new_list_begins_anew(self):
        calls = [*level(64), *written(16, 48, 0), *written(16, 48, 1)]
        first = answers(calls)
        answers([*begins(5, [5]), *rules(0, 0, 1), *level(4)])
        self.assertEqual(answers(calls), first)
        self.assertEqual(first, [1, 1, 5, 2, 3, 0, 3, 0, 5, 2, 3, 0, 3, 0])

    def test_voice_and_beams_begin_anew(self):
        items = [(16, 0), (32, 0), (32, 1), (16, 0), (160, 0)]
        calls = [*voice(items), *beams(items)]
        first = answers(calls)
        answers([*begins(5, [5]), *rules(0, 0, 1), *voice(items), *beams(items)])
        self.assertEqual(answers(calls), first)
        self.assertEqual(first[:15], [57, 8, 0, 0, 3, 0, 0, 0, 0, 0, 16, 3, 0, 0, 1])
        self.assertEqual(first[58:66], [25, 8, 1, 0, 1, 0, 0, 0])

    def test_the_list_of_signs_is_not_kept(self):
        first = answers(signs())
        kept = list(first)
        first[1] = 0
        first.clear()
        self.assertEqual(answers(signs()), kept)

    def test_what_is_answered_is_not_kept(self):
        calls = [*begins(12, [3]), *written(0, 11)]
        first = answers(calls)
        kept = list(first)
        first.clear()
        self.assertEqual(answers(calls), kept)

    def test_the_list_handed_in_is_as_it_was(self):
        calls = [*begins(12, [3, 2]), *rules(1, 2, 3), *level(5), *written(1, 11, 1), *begins(7, [2]), *level(12),
                 *voice([(5, 0), (30, 1)]), *beams([(5, 0), (30, 1)]), *voice([(0, 1)]), *tuplet(3, 64), *signs()]
        copy = list(calls)
        answers(calls)
        self.assertEqual(calls, copy)

    def test_the_largest_numbers(self):
        told = ask(begins(LARGEST, [LARGEST] * 20), begins(128, [LARGEST] * 20), begins(LARGEST, []),
                   rules(LARGEST, LARGEST, LARGEST), level(LARGEST), written(LARGEST, LARGEST, 1),
                   written(0, LARGEST, 0), voice([(LARGEST, 1)] * 120), beams([(LARGEST, 1)] * 120),
                   tuplet(LARGEST, LARGEST), level(127), written(0, 128))
        self.assertEqual(told, [[-1]] * 10 + [[7], [1, 0, 0]])

    def test_a_hundred_calls_with_long_answers(self):
        told = ask(begins(256, []), *[written(1, 256, k % 2) for k in range(99)])
        self.assertEqual(told, [[1]] + [[255] + [7, 0] * 255] * 99)

    def test_a_hundred_calls_of_every_kind(self):
        items = notes(16, 8, 8, 96, 128, 32)
        round_of_ten = [begins(96, [3, 2]), rules(2, 1, 48), level(48), written(0, 80), voice(items), beams(items),
                        tuplet(5, 48), signs(), rules(8, 8, 32), begins(128, [2] * 7)]
        self.assertEqual(ask(*round_of_ten * 10), ask(*round_of_ten) * 10)

    def test_a_hundred_calls_with_the_longest_voices(self):
        told = ask(begins(1, []), *[voice([(2000, 0)])] * 50, *[beams([(20, 1)] * 100)] * 49)
        self.assertEqual([len(answer) for answer in told], [1] + [14001] * 50 + [6001] * 49)
        self.assertEqual(told[50][-7:], [1999, 0, 7, 0, 0, 0, 0])
        self.assertEqual(told[99], [2000] + [0] * 6000)

    def test_a_hundred_calls_with_the_longest_bars(self):
        items = [(20, k % 2) for k in range(100)]
        told = ask(begins(256, [2] * 8), rules(0, 3, 256), *[voice(items), beams(items)] * 49)
        self.assertEqual(told[2:], told[2:4] * 49)

    def test_answers_are_whole_numbers_in_a_list(self):
        told = answers([*begins(12, [3, 2]), *rules(1, 2, 3), *level(5), *written(1, 11, 1), *level(12),
                        *voice([(9, 0), (9, 1)]), *beams(notes(9, 9)), *tuplet(7, 9), *tuplet(1, 200), *signs()])
        self.assertIs(type(told), list)
        self.assertEqual({type(number) for number in told}, {int})

    def test_a_call_of_no_known_number(self):
        with self.assertRaises(UnknownCall):
            answers([8])


if __name__ == "__main__":
    unittest.main()
