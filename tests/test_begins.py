"""Promise 1: begins."""

import unittest

from helper import LARGEST, ask, ask_last, begins, level, partings_of, written


class Begins(unittest.TestCase):
    def answers(self, bar, partings, expected):
        self.assertEqual(ask(begins(bar, partings)), [[expected]], (bar, partings))

    def test_answers_one_more_than_the_partings(self):
        self.answers(128, [2] * 7, 8)
        self.answers(96, [3, 2, 2], 4)
        self.answers(60, [5, 3], 3)
        self.answers(60, [15, 4], 3)

    def test_no_partings(self):
        self.answers(128, [], 1)
        self.assertEqual(ask(begins(5, []), level(0), level(4), level(5)), [[1], [0], [1], [-1]])

    def test_the_bar_at_its_edges(self):
        self.answers(0, [], -1)
        self.answers(1, [], 1)
        self.answers(256, [], 1)
        self.answers(257, [], -1)
        self.answers(0, [2], -1)
        self.answers(256, [2], 2)
        self.answers(258, [2], -1)
        self.answers(LARGEST, [], -1)

    def test_how_many_partings_at_the_edge(self):
        self.answers(256, [2] * 8, 9)
        self.answers(256, [2] * 9, -1)
        self.answers(256, [2] * 20, -1)
        self.answers(LARGEST, [LARGEST] * 20, -1)

    def test_each_parting_at_its_edges(self):
        self.answers(16, [0], -1)
        self.answers(16, [1], -1)
        self.answers(16, [2], 2)
        self.answers(16, [16], 2)
        self.answers(17, [17], -1)
        self.answers(256, [16, 16], 3)
        self.answers(255, [15, 17], -1)
        self.answers(255, [LARGEST], -1)

    def test_a_wrong_parting_behind_good_ones(self):
        self.answers(16, [2, 2, 0], -1)
        self.answers(16, [2, 2, 1], -1)
        self.answers(16, [2, 1, 2], -1)
        self.answers(17 * 4, [2, 2, 17], -1)

    def test_what_is_parted_into_whole_ticks(self):
        self.answers(7, [2], -1)
        self.answers(1, [2], -1)
        self.answers(12, [2, 2, 3], 4)
        self.answers(12, [2, 2, 2], -1)
        self.answers(12, [3, 2, 2], 4)
        self.answers(12, [3, 2, 2, 2], -1)
        self.answers(12, [12], 2)
        self.answers(12, [8], -1)

    def test_every_parting_of_small_bars(self):
        for bar in range(1, 25):
            for partings in partings_of(bar):
                self.answers(bar, partings, len(partings) + 1)

    def test_a_refusal_leaves_the_metre(self):
        refused = [(0, []), (257, [2]), (8, [2] * 9), (8, [1]), (8, [0]), (17, [17]), (9, [2]), (8, [2, 2, 2, 2])]
        for bar, partings in refused:
            told = ask(begins(12, [3, 2]), begins(bar, partings), level(4), level(6), level(11), level(12),
                       written(0, 12))
            self.assertEqual(told, [[3], [-1], [1], [2], [3], [-1], [1, 4, 1]], (bar, partings))

    def test_a_refusal_leaves_the_first_metre(self):
        self.assertEqual(ask(begins(7, [2]), level(64), level(127), level(128)), [[-1], [1], [7], [-1]])

    def test_the_last_metre_counts(self):
        self.assertEqual(ask_last(begins(12, [3]), begins(12, [2]), level(6)), [1])
        self.assertEqual(ask_last(begins(12, [3, 4]), begins(12, []), level(6)), [1])


if __name__ == "__main__":
    unittest.main()
