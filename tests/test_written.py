"""Promise 2: written."""

import unittest

from helper import (LARGEST, SIGNS, as_answer, ask, ask_last, ask_many, begins, best_rows, every_row, partings_of,
                    rank, rules, searched_levels, written)

UNPARTED = begins(256, [])
CROSS_ALL = rules(0, 0, 32)


class Signs(unittest.TestCase):
    def test_every_sign(self):
        lengths = {
            128: (0, 0), 192: (0, 1), 224: (0, 2), 64: (1, 0), 96: (1, 1), 112: (1, 2),
            32: (2, 0), 48: (2, 1), 56: (2, 2), 16: (3, 0), 24: (3, 1), 28: (3, 2),
            8: (4, 0), 12: (4, 1), 14: (4, 2), 4: (5, 0), 6: (5, 1), 7: (5, 2),
            2: (6, 0), 3: (6, 1), 1: (7, 0),
        }
        self.assertEqual(SIGNS, lengths)
        for length, (number, dots) in lengths.items():
            self.assertEqual(ask_last(UNPARTED, written(0, length)), [1, number, dots])

    def test_other_lengths_are_no_single_sign(self):
        for length in range(1, 257):
            told = ask_last(UNPARTED, CROSS_ALL, written(0, length))
            self.assertEqual(told[0] == 1, length in SIGNS, length)


class Refusals(unittest.TestCase):
    def test_to_not_behind_start(self):
        for rest in (0, 1):
            told = ask(written(5, 6, rest), written(5, 5, rest), written(5, 4, rest), written(0, 0, rest))
            self.assertEqual(told, [[1, 7, 0], [-1], [-1], [-1]])

    def test_to_behind_the_end(self):
        for rest in (0, 1):
            told = ask(written(0, 128, rest), written(0, 129, rest), written(127, 128, rest), written(127, 129, rest),
                       written(128, 129, rest), written(128, 128, rest))
            self.assertEqual(told, [[1, 0, 0], [-1], [1, 7, 0], [-1], [-1], [-1]])

    def test_the_bar_that_counts_is_the_last_one_begun(self):
        told = ask(begins(256, [2]), written(0, 192), begins(96, [3]), written(0, 96), written(0, 97))
        self.assertEqual(told, [[2], [1, 0, 1], [2], [1, 1, 1], [-1]])

    def test_the_largest_numbers(self):
        told = ask(written(LARGEST, LARGEST), written(0, LARGEST), written(LARGEST, 0, 1), written(LARGEST - 1, LARGEST))
        self.assertEqual(told, [[-1]] * 4)


class Rows(unittest.TestCase):
    def row(self, calls, start, to, lengths):
        for rest in (0, 1):
            self.assertEqual(ask_last(*calls, written(start, to, rest)), as_answer(lengths), (calls, start, to))

    def test_a_strong_place_is_not_hidden(self):
        self.row([], 32, 128, [32, 64])
        self.row([], 16, 48, [16, 16])
        self.row([], 8, 128, [8, 16, 32, 64])
        self.row([], 1, 128, [1, 2, 4, 8, 16, 32, 64])

    def test_dots(self):
        self.row([], 0, 96, [96])
        self.row([], 0, 112, [112])
        self.row([], 64, 120, [56])
        self.row([], 0, 127, [112, 14, 1])

    def test_a_place_of_the_same_level_is_not_hidden(self):
        self.row([begins(96, [3, 2])], 32, 96, [32, 32])
        self.row([begins(96, [3, 2])], 0, 96, [96])
        self.row([begins(20, [5, 4])], 4, 20, [4, 4, 4, 4])

    def test_a_bar_that_is_not_parted(self):
        self.row([begins(8, [])], 0, 8, [8])
        self.row([begins(8, [])], 1, 8, [1] * 7)
        self.row([begins(8, []), rules(1, 1, 1)], 1, 8, [7])
        self.row([begins(1, [])], 0, 1, [1])

    def test_what_is_crossed(self):
        self.row([rules(2, 2, 32)], 16, 48, [32])
        self.row([rules(2, 2, 32)], 48, 80, [16, 16])
        self.row([rules(1, 1, 32)], 48, 80, [32])
        self.row([rules(3, 3, 32)], 8, 32, [24])
        self.row([rules(3, 3, 32)], 8, 40, [24, 8])

    def test_a_sign_may_end_at_a_strong_place(self):
        self.row([rules(2, 2, 32)], 16, 64, [48])
        self.row([rules(2, 2, 32)], 16, 65, [48, 1])

    def test_level_nought_crossed(self):
        self.row([CROSS_ALL], 1, 127, [112, 14])

    def test_fewer_signs_before_a_longer_first_one(self):
        # 16, 4, 1 begins longer, but is one sign more.
        self.row([CROSS_ALL], 0, 21, [14, 7])
        self.row([CROSS_ALL], 3, 24, [14, 7])

    def test_of_as_few_the_first_sign_is_the_longest(self):
        self.row([CROSS_ALL], 0, 5, [4, 1])
        self.row([CROSS_ALL], 0, 9, [8, 1])
        self.row([CROSS_ALL], 0, 18, [16, 2])

    def test_then_the_second_one(self):
        self.row([CROSS_ALL], 0, 37, [32, 4, 1])

    def test_of_a_note_and_of_a_rest(self):
        told = ask(rules(1, 3, 32), written(8, 80, 0), written(8, 80, 1))
        self.assertEqual(told, [[0], as_answer([64, 8]), as_answer([24, 32, 16])])

    def test_the_longest_bar(self):
        self.row([begins(256, [2] * 8)], 0, 256, [224, 32])
        self.row([begins(256, [2] * 8)], 255, 256, [1])
        self.row([UNPARTED], 1, 256, [1] * 255)
        self.row([UNPARTED, CROSS_ALL], 1, 256, [224, 28, 3])


class Searched(unittest.TestCase):
    def held_against(self, bar, partings, crossed, expected):
        """expected gives the best row's lengths for (start, to)."""
        pairs = sorted(expected)
        for rest in (0, 1):
            # The other kind's level is another one, so that the two can't be taken for each other.
            other = 20 if crossed < 10 else 0
            told_rules = rules(other, crossed, 32) if rest else rules(crossed, other, 32)
            told = ask_many([begins(bar, partings), told_rules], [written(*pair, rest) for pair in pairs])
            for pair, answer in zip(pairs, told):
                self.assertEqual(answer, as_answer(expected[pair]), (bar, partings, crossed, pair, rest))

    def test_every_row_of_small_bars(self):
        for bar in range(1, 11):
            for partings in partings_of(bar):
                levels = searched_levels(bar, partings)
                for crossed in [*range(len(partings) + 3), 20]:
                    expected = {(start, to): min(every_row(levels, crossed, start, to), key=rank)
                                for to in range(1, bar + 1) for start in range(to)}
                    self.held_against(bar, partings, crossed, expected)

    def test_every_row_of_some_longer_bars(self):
        for bar, partings in [(12, [3, 2]), (12, [2, 3]), (15, [5]), (15, [3, 5]), (16, [2, 2, 2]), (16, [])]:
            levels = searched_levels(bar, partings)
            for crossed in [*range(len(partings) + 2), 20]:
                expected = {(start, bar): min(every_row(levels, crossed, start, bar), key=rank)
                            for start in range(bar)}
                self.held_against(bar, partings, crossed, expected)

    def test_long_bars(self):
        metres = [(128, [2] * 7), (256, [2] * 8), (192, [3, 2, 2, 2]), (240, [5, 3, 2, 2]), (225, [15, 5]),
                  (252, [2, 3, 7]), (251, []), (256, [16, 16])]
        for bar, partings in metres:
            levels = searched_levels(bar, partings)
            for crossed in [0, 1, 2, 3, 8, 20]:
                for to in (bar, bar - 37):
                    best = best_rows(levels, crossed, to)
                    expected = {(start, to): best[start] for start in range(to)}
                    self.held_against(bar, partings, crossed, expected)


if __name__ == "__main__":
    unittest.main()
