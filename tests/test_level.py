"""Promise 2: level."""

import unittest

from helper import LARGEST, ask, ask_many, begins, level, partings_of, searched_levels


class Level(unittest.TestCase):
    def levels(self, bar, partings, expected):
        told = ask(begins(bar, partings), *[level(place) for place in range(len(expected))])
        self.assertEqual(told[1:], [[answer] for answer in expected], (bar, partings))

    def test_the_first_metre(self):
        places = [0, 64, 32, 96, 16, 48, 80, 112, 8, 120, 4, 2, 126, 1, 127]
        expected = [0, 1, 2, 2, 3, 3, 3, 3, 4, 4, 5, 6, 6, 7, 7]
        self.assertEqual(ask(*[level(place) for place in places]), [[answer] for answer in expected])

    def test_behind_the_bar(self):
        self.assertEqual(ask(level(127), level(128), level(129), level(LARGEST)), [[7], [-1], [-1], [-1]])

    def test_parts_of_each_parting_and_where_none_begins(self):
        self.levels(12, [2, 3], [0, 3, 2, 3, 2, 3, 1, 3, 2, 3, 2, 3, -1])

    def test_into_three_then_two(self):
        self.levels(12, [3, 2], [0, 3, 2, 3, 1, 3, 2, 3, 1, 3, 2, 3, -1])

    def test_into_five(self):
        self.levels(10, [5], [0, 2, 1, 2, 1, 2, 1, 2, 1, 2, -1])

    def test_not_parted(self):
        self.levels(6, [], [0, 1, 1, 1, 1, 1, -1])

    def test_parted_to_single_ticks(self):
        self.levels(4, [2, 2], [0, 2, 1, 2, -1])

    def test_the_shortest_bar(self):
        self.levels(1, [], [0, -1])

    def test_the_longest_bar(self):
        told = ask(begins(256, [2] * 8), level(0), level(128), level(64), level(255), level(256))
        self.assertEqual(told[1:], [[0], [1], [2], [8], [-1]])
        told = ask(begins(256, [16]), level(16), level(240), level(255), level(256))
        self.assertEqual(told[1:], [[1], [1], [2], [-1]])

    def test_held_against_parting_part_by_part(self):
        metres = [(bar, partings) for bar in range(1, 31) for partings in partings_of(bar)]
        metres += [(128, [2] * 7), (240, [3, 5, 2, 2]), (225, [15, 3, 5]), (252, [2, 3, 7, 3]), (256, [16, 2, 4])]
        for bar, partings in metres:
            told = ask_many([begins(bar, partings)], [level(place) for place in range(bar + 2)])
            expected = searched_levels(bar, partings) + [-1, -1]
            self.assertEqual(told, [[answer] for answer in expected], (bar, partings))


if __name__ == "__main__":
    unittest.main()
