"""Promise 3: beams."""

import random
import unittest

from helper import (ask, ask_last, beams, begins, counted, notes, partings_of, rules, searched_beams, searched_voice,
                    voice)

NONE = (0, 0, 0)


def crossing(group):
    """Every level is crossed, so that each item within a bar that is as long as a sign is that one sign."""
    return rules(0, 0, group)


class Beams(unittest.TestCase):
    def told(self, calls, items, rows):
        """rows: of each sign the beams to the next, its stubs, 1 if more beams go to the next."""
        self.assertEqual(ask_last(*calls, beams(items)), counted(rows), (calls, items))

    def test_no_items(self):
        self.told([], [], [])

    def test_two_eighths(self):
        self.told([], notes(16, 16), [(1, 0, 1), NONE])

    def test_each_number_has_its_flags(self):
        for length, flags in [(16, 1), (24, 1), (28, 1), (8, 2), (12, 2), (14, 2), (4, 3), (6, 3), (7, 3), (2, 4),
                              (3, 4), (1, 5)]:
            self.told([crossing(256)], notes(length, length), [(flags, 0, 1), NONE])

    def test_signs_without_flags(self):
        for length in (32, 48, 56, 64):
            self.told([crossing(256)], notes(length, length), [NONE, NONE])
            self.told([crossing(256)], notes(16, length, 16), [NONE, NONE, NONE])
        for length in (96, 112):
            self.told([crossing(256)], notes(length, 8, 8), [NONE, (2, 0, 1), NONE])
        for length in (128, 192, 224):
            self.told([begins(256, []), crossing(256)], notes(length, 8, 8), [NONE, (2, 0, 1), NONE])

    def test_a_rest_has_no_flags(self):
        self.told([], [(8, 0), (8, 1), (16, 0)], [NONE, NONE, NONE])
        self.told([], [(16, 1), (16, 1)], [NONE, NONE])
        self.told([], [(8, 1), (8, 0), (8, 0), (8, 1)], [NONE, (2, 0, 1), NONE, NONE])

    def test_a_sign_that_is_beamed_to_none(self):
        for length in (16, 8, 4, 2, 1):
            self.told([], notes(length), [NONE])
            self.told([crossing(256)], notes(32, length, 32), [NONE, NONE, NONE])
            self.told([crossing(256)], [(32, 1), (length, 0), (32, 1)], [NONE, NONE, NONE])

    def test_as_many_beams_as_the_one_with_fewer_flags(self):
        self.told([crossing(32)], notes(16, 8), [(1, 0, 1), (0, 1, 0)])
        self.told([crossing(32)], notes(8, 16), [(1, 1, 1), NONE])
        self.told([crossing(32)], notes(16, 1), [(1, 0, 1), (0, 4, 0)])
        self.told([crossing(32)], notes(1, 16), [(1, 4, 1), NONE])
        self.told([crossing(32)], notes(4, 1), [(3, 0, 1), (0, 2, 0)])

    def test_more_to_the_one_before(self):
        self.told([crossing(256)], notes(8, 8, 16), [(2, 0, 1), (1, 0, 0), NONE])
        self.told([crossing(256)], notes(8, 4, 16), [(2, 0, 1), (1, 1, 0), NONE])
        self.told([crossing(256)], notes(8, 1, 16), [(2, 0, 1), (1, 3, 0), NONE])

    def test_more_to_the_next(self):
        self.told([crossing(256)], notes(16, 8, 8), [(1, 0, 1), (2, 0, 1), NONE])
        self.told([crossing(256)], notes(16, 4, 8), [(1, 0, 1), (2, 1, 1), NONE])
        self.told([crossing(256)], notes(16, 1, 8), [(1, 0, 1), (2, 3, 1), NONE])

    def test_as_many_on_both_sides(self):
        self.told([crossing(256)], notes(16, 16, 16), [(1, 0, 1), (1, 0, 0), NONE])
        self.told([crossing(256)], notes(16, 8, 16), [(1, 0, 1), (1, 1, 0), NONE])
        self.told([crossing(256)], notes(8, 1, 8), [(2, 0, 1), (2, 3, 0), NONE])

    def test_one_group_and_two(self):
        self.told([], notes(16, 16, 16, 16), [(1, 0, 1), NONE, (1, 0, 1), NONE])
        self.told([rules(8, 8, 64)], notes(16, 16, 16, 16), [(1, 0, 1), (1, 0, 0), (1, 0, 0), NONE])
        self.told([rules(8, 8, 16)], notes(16, 16, 8, 8), [NONE, NONE, (2, 0, 1), NONE])

    def test_the_edge_of_a_group(self):
        # The rest has two signs; the notes begin at the places 30 to 33.
        self.told([], [(30, 1)] + notes(1, 1, 1, 1), [NONE, NONE, (5, 0, 1), NONE, (5, 0, 1), NONE])
        self.told([rules(8, 8, 31)], [(30, 1)] + notes(1, 1, 1, 1),
                  [NONE, NONE, NONE, (5, 0, 1), (5, 0, 0), NONE])

    def test_the_place_where_a_sign_begins_counts(self):
        self.told([crossing(24)], notes(16, 16, 16, 16), [(1, 0, 1), NONE, NONE, NONE])
        self.told([crossing(17)], notes(16, 16), [(1, 0, 1), NONE])
        self.told([crossing(16)], notes(16, 16), [NONE, NONE])

    def test_stubs_where_a_neighbour_is_of_another_group(self):
        self.told([crossing(32)], notes(24, 8, 8, 24), [(1, 0, 1), (0, 1, 0), (1, 1, 1), NONE])
        self.told([crossing(16)], notes(8, 4, 4, 4, 4), [(2, 0, 1), (3, 0, 1), NONE, (3, 0, 1), NONE])

    def test_two_bars(self):
        bar = begins(32, [2, 2])
        self.told([bar, crossing(256)], notes(16, 16, 16, 16), [(1, 0, 1), NONE, (1, 0, 1), NONE])
        # The same place in the next bar is another bar all the same.
        self.told([begins(16, [2]), crossing(256)], notes(16, 16), [NONE, NONE])
        self.told([begins(1, []), crossing(256)], notes(1, 1, 1), [NONE, NONE, NONE])

    def test_groups_that_dont_part_the_bar_evenly(self):
        # 0, 16, 32 | 48, 64 | 80, and from the next bar's beginning on the same again.
        bar_of_six = [(1, 0, 1), (1, 0, 0), NONE, (1, 0, 1), NONE, NONE]
        self.told([begins(96, [3, 2]), rules(8, 8, 40)], notes(*[16] * 12), bar_of_six * 2)

    def test_groups_of_one_tick(self):
        self.told([rules(8, 8, 1)], notes(16, 16, 8, 8, 1, 1), [NONE] * 6)

    def test_groups_longer_than_the_bar(self):
        whole = [(1, 0, 1)] + [(1, 0, 0)] * 6 + [NONE]
        for group in (128, 129, 256):
            self.told([rules(8, 8, group)], notes(*[16] * 16), whole * 2)

    def test_signs_of_one_note(self):
        self.told([], notes(20), [(1, 0, 1), (0, 2, 0)])
        self.told([], notes(8, 24), [(2, 0, 1), (1, 0, 0), NONE])
        self.told([rules(8, 8, 64)], notes(16, 32, 16), [(1, 0, 1), (1, 0, 0), (1, 0, 0), NONE])
        # Tied over a bar's end, but not beamed over it.
        self.told([rules(8, 8, 256)], notes(112, 32), [NONE, NONE, NONE])

    def test_notes_and_rests_cross_their_own_level(self):
        self.told([rules(2, 8, 64)], [(16, 0), (32, 0), (32, 1)], [NONE] * 4)
        self.told([rules(8, 2, 64)], [(16, 0), (32, 0), (32, 1)], [(1, 0, 1), (1, 0, 0)] + [NONE] * 3)

    def test_a_hundred_items_and_two_thousand_ticks(self):
        self.told([], notes(*[16] * 100), [(1, 0, 1), NONE] * 50)
        self.told([], notes(2000), [NONE] * 17)


class Searched(unittest.TestCase):
    def test_beams_of_many_metres(self):
        chance = random.Random(5)
        for bar in list(range(1, 33)) + [32, 36, 48] * 10:
            partings = chance.choice(partings_of(bar))
            crossed = (chance.choice([0, 1, 2, 8]), chance.choice([0, 1, 2, 8]))
            group = chance.choice([1, 2, 3, 5, 7, 8, 12, 16, 20, 31, 256])
            items = [(chance.choice([1, 2, 3, 4, 5, 6, 7, 8, 12, 16, 24]), int(chance.random() < 0.15))
                     for k in range(20)]
            told = ask(begins(bar, partings), rules(*crossed, group), beams(items), voice(items))
            rows = searched_voice(bar, partings, crossed, items)
            self.assertEqual(told[2], counted(searched_beams(rows, group)), (bar, partings, crossed, group, items))
            self.assertEqual(told[2][0], told[3][0])


if __name__ == "__main__":
    unittest.main()
