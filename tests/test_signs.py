"""The call signs: all 21 of them, the longest first."""

import unittest

from helper import SIGNS, ask, ask_last, begins, counted, rules, signs


class Signs(unittest.TestCase):
    def test_all_of_them(self):
        rows = [
            (0, 2, 224), (0, 1, 192), (0, 0, 128), (1, 2, 112), (1, 1, 96), (1, 0, 64), (2, 2, 56), (2, 1, 48),
            (2, 0, 32), (3, 2, 28), (3, 1, 24), (3, 0, 16), (4, 2, 14), (4, 1, 12), (4, 0, 8), (5, 2, 7), (5, 1, 6),
            (5, 0, 4), (6, 1, 3), (6, 0, 2), (7, 0, 1),
        ]
        self.assertEqual(ask(signs()), [counted(rows)])

    def test_as_the_words_make_them(self):
        rows = [(*SIGNS[length], length) for length in sorted(SIGNS, reverse=True)]
        self.assertEqual(len(rows), 21)
        self.assertEqual(ask_last(signs()), counted(rows))

    def test_metre_and_rules_dont_count(self):
        told = ask(signs(), begins(5, [5]), rules(0, 0, 1), signs(), begins(0, []), signs())
        self.assertEqual(told[0], told[3])
        self.assertEqual(told[0], told[5])


if __name__ == "__main__":
    unittest.main()
