"""Promise 4: tuplet."""

import unittest
from fractions import Fraction

from helper import LARGEST, ask, ask_many, begins, rules, tuplet


class Tuplet(unittest.TestCase):
    def answers(self, n, time, *expected):
        self.assertEqual(ask(tuplet(n, time)), [list(expected)], (n, time))

    def test_ordinary_ones(self):
        self.answers(3, 64, 0, 2, 3, 2)
        self.answers(3, 32, 0, 3, 3, 2)
        self.answers(5, 32, 0, 4, 5, 4)
        self.answers(6, 32, 0, 4, 3, 2)
        self.answers(7, 64, 0, 3, 7, 4)
        self.answers(2, 48, 0, 2, 4, 3)
        self.answers(4, 48, 0, 3, 4, 3)

    def test_each_number_of_a_sign(self):
        for number in range(8):
            self.answers(1, 128 >> number, 0, number, 1, 1)
        for number in range(7):
            self.answers(3, 256 >> number, 0, number, 3, 2)

    def test_just_long_enough_and_just_too_short(self):
        self.answers(1, 32, 0, 2, 1, 1)
        self.answers(1, 33, 0, 1, 64, 33)
        self.answers(1, 31, 0, 2, 32, 31)
        self.answers(3, 24, 0, 4, 1, 1)
        self.answers(3, 25, 0, 3, 48, 25)
        self.answers(3, 23, 0, 4, 24, 23)
        self.answers(5, 5, 0, 7, 1, 1)
        self.answers(5, 6, 0, 6, 5, 3)

    def test_signs_with_dots_are_not_taken(self):
        self.answers(1, 48, 0, 1, 4, 3)
        self.answers(1, 3, 0, 5, 4, 3)
        self.answers(2, 96, 0, 1, 4, 3)

    def test_lowest_terms(self):
        self.answers(6, 64, 0, 3, 3, 2)
        self.answers(12, 64, 0, 4, 3, 2)
        self.answers(1, 100, 0, 0, 32, 25)
        self.answers(64, 256, 0, 5, 1, 1)
        self.answers(63, 256, 0, 4, 63, 32)

    def test_n_at_its_edges(self):
        self.answers(0, 32, -1)
        self.answers(1, 32, 0, 2, 1, 1)
        self.answers(64, 32, 0, 7, 2, 1)
        self.answers(65, 32, -1)
        self.answers(LARGEST, 32, -1)

    def test_the_time_at_its_edges(self):
        self.answers(3, 0, -1)
        self.answers(3, 1, 0, 7, 3, 1)
        self.answers(3, 256, 0, 0, 3, 2)
        self.answers(3, 257, -1)
        self.answers(3, LARGEST, -1)
        self.answers(64, 1, 0, 7, 64, 1)

    def test_whole_notes_that_are_too_short(self):
        self.answers(1, 128, 0, 0, 1, 1)
        self.answers(1, 129, -6)
        self.answers(1, 256, -6)
        self.answers(2, 256, 0, 0, 1, 1)
        self.answers(2, 255, 0, 0, 256, 255)

    def test_what_is_told_first_counts(self):
        self.answers(0, 256, -1)
        self.answers(1, 257, -1)
        self.answers(1, LARGEST, -1)
        self.answers(0, 0, -1)
        self.answers(2, 257, -1)
        self.answers(LARGEST, LARGEST, -1)

    def test_metre_and_rules_dont_count(self):
        told = ask(begins(5, [5]), rules(0, 0, 1), tuplet(3, 64), tuplet(1, 129), tuplet(0, 1))
        self.assertEqual(told[2:], [[0, 2, 3, 2], [-6], [-1]])

    def test_all(self):
        pairs = [(n, time) for n in range(66) for time in range(258)]
        for (n, time), told in zip(pairs, ask_many([], [tuplet(*pair) for pair in pairs])):
            if not (1 <= n <= 64 and 1 <= time <= 256):
                expected = [-1]
            elif n * 128 < time:
                expected = [-6]
            else:
                number = max(k for k in range(8) if n * (128 >> k) >= time)
                ratio = Fraction(n * (128 >> number), time)
                expected = [0, number, ratio.numerator, ratio.denominator]
            self.assertEqual(told, expected, (n, time))


if __name__ == "__main__":
    unittest.main()
