"""Promise 3: which items voice and beams refuse."""

import unittest

from helper import LARGEST, ask, ask_last, beams, begins, level, notes, rules, voice


class Items(unittest.TestCase):
    def refused(self, items):
        for call in (voice, beams):
            self.assertEqual(ask(call(items)), [[-1]], items)
            self.assertEqual(ask_last(begins(1, []), rules(0, 0, 1), call(items)), [-1], items)

    def taken(self, items, signs):
        for call, numbers in ((voice, 7), (beams, 3)):
            answer = ask_last(call(items))
            self.assertEqual(answer[0], signs, items)
            self.assertEqual(len(answer), 1 + signs * numbers, items)

    def test_how_many_items(self):
        for rest in (0, 1):
            self.taken([(1, rest)] * 99, 99)
            self.taken([(1, rest)] * 100, 100)
            self.refused([(1, rest)] * 101)
            self.refused([(1, rest)] * 120)

    def test_a_length_of_nought(self):
        for rest in (0, 1):
            self.refused([(0, rest)])
            self.refused([(0, rest), (1, 0), (1, 1)])
            self.refused([(1, 0), (0, rest), (1, 1)])
            self.refused([(1, 0), (1, 1), (0, rest)])
            self.taken([(1, rest), (1, 0), (1, 1)], 3)

    def test_how_many_ticks(self):
        for rest in (0, 1):
            # Fifteen bars are whole notes, and the 80 ticks that are left a half and an eighth.
            self.taken([(2000, rest)], 15 + 2)
            self.refused([(2001, rest)])
            # The last item begins at the place 48: an eighth, a half, two whole notes, a half, an eighth.
            self.taken([(16, rest)] * 99 + [(416, rest)], 99 + 6)
            self.refused([(16, rest)] * 99 + [(417, rest)])
            self.taken([(1999, rest), (1, rest)], 15 + 3 + 1)
            self.refused([(1, rest), (2000, 1 - rest)])
            self.refused([(2000, rest), (1, 1 - rest)])

    def test_rests_count_as_items_and_as_ticks(self):
        self.refused(notes(*[1] * 50) + [(1, 1)] * 51)
        self.refused(notes(1000) + [(1001, 1)])

    def test_the_largest_numbers(self):
        for rest in (0, 1):
            self.refused([(LARGEST, rest)])
            self.refused([(LARGEST, rest)] * 100)
            self.refused([(LARGEST, rest)] * 120)
            self.refused([(1, 0), (LARGEST, rest)])

    def test_several_grounds_at_once(self):
        self.refused([(0, 0)] * 120)
        self.refused([(0, 1), (LARGEST, 0)] * 60)

    def test_a_refusal_changes_nothing(self):
        for call in (voice, beams):
            items = notes(8, 40, 30)
            calls = [begins(96, [3, 2]), rules(1, 2, 24), call(items), level(48)]
            expected = ask(*calls)
            for refused in ([(0, 0)], notes(2001), notes(*[1] * 101)):
                told = ask(*calls[:2], call(refused), *calls[2:])
                self.assertEqual(told, [*expected[:2], [-1], *expected[2:]])


if __name__ == "__main__":
    unittest.main()
