"""Promise 3: voice."""

import random
import unittest

from helper import ask, ask_last, begins, counted, notes, partings_of, rules, searched_voice, voice

CROSS_ALL = rules(0, 0, 32)


class Voice(unittest.TestCase):
    def told(self, calls, items, rows):
        """rows: of each sign bar, place, number, dots, rest, tied, item."""
        self.assertEqual(ask_last(*calls, voice(items)), counted(rows), (calls, items))

    def test_no_items(self):
        self.assertEqual(ask(voice([])), [[0]])
        self.assertEqual(ask(begins(1, []), rules(0, 0, 1), voice([])), [[1], [0], [0]])

    def test_one_sign(self):
        self.told([], [(32, 0)], [(0, 0, 2, 0, 0, 0, 0)])
        self.told([], [(32, 1)], [(0, 0, 2, 0, 1, 0, 0)])
        self.told([], [(1, 0)], [(0, 0, 7, 0, 0, 0, 0)])

    def test_one_behind_the_other(self):
        self.told([], [(16, 0), (16, 1), (32, 0), (48, 1), (16, 0)], [
            (0, 0, 3, 0, 0, 0, 0), (0, 16, 3, 0, 1, 0, 1), (0, 32, 2, 0, 0, 0, 2), (0, 64, 2, 1, 1, 0, 3),
            (0, 112, 3, 0, 0, 0, 4)])

    def test_signs_of_a_note_are_tied_but_the_last(self):
        self.told([], notes(8, 40, 80), [
            (0, 0, 4, 0, 0, 0, 0),
            (0, 8, 4, 0, 0, 1, 1), (0, 16, 3, 0, 0, 1, 1), (0, 32, 3, 0, 0, 0, 1),
            (0, 48, 3, 0, 0, 1, 2), (0, 64, 1, 0, 0, 0, 2)])

    def test_signs_of_a_rest_are_not_tied(self):
        self.told([], [(8, 1), (40, 1), (80, 1), (136, 1)], [
            (0, 0, 4, 0, 1, 0, 0),
            (0, 8, 4, 0, 1, 0, 1), (0, 16, 3, 0, 1, 0, 1), (0, 32, 3, 0, 1, 0, 1),
            (0, 48, 3, 0, 1, 0, 2), (0, 64, 1, 0, 1, 0, 2),
            (1, 0, 0, 0, 1, 0, 3), (2, 0, 4, 0, 1, 0, 3)])

    def test_alike_neighbours_stay_two_items(self):
        self.told([], [(32, 0), (32, 0), (32, 1), (32, 1)], [
            (0, 0, 2, 0, 0, 0, 0), (0, 32, 2, 0, 0, 0, 1), (0, 64, 2, 0, 1, 0, 2), (0, 96, 2, 0, 1, 0, 3)])

    def test_notes_and_rests_cross_their_own_level(self):
        self.told([rules(2, 8, 32)], [(16, 0), (32, 0), (32, 1), (48, 0)], [
            (0, 0, 3, 0, 0, 0, 0), (0, 16, 2, 0, 0, 0, 1), (0, 48, 3, 0, 1, 0, 2), (0, 64, 3, 0, 1, 0, 2),
            (0, 80, 2, 1, 0, 0, 3)])
        self.told([rules(8, 1, 32)], [(16, 1), (32, 0), (32, 1), (48, 0)], [
            (0, 0, 3, 0, 1, 0, 0), (0, 16, 3, 0, 0, 1, 1), (0, 32, 3, 0, 0, 0, 1), (0, 48, 2, 0, 1, 0, 2),
            (0, 80, 3, 0, 0, 1, 3), (0, 96, 2, 0, 0, 0, 3)])

    def test_the_end_of_a_bar(self):
        self.told([], notes(128, 128), [(0, 0, 0, 0, 0, 0, 0), (1, 0, 0, 0, 0, 0, 1)])
        self.told([], notes(64, 64, 1), [(0, 0, 1, 0, 0, 0, 0), (0, 64, 1, 0, 0, 0, 1), (1, 0, 7, 0, 0, 0, 2)])

    def test_over_the_end_of_a_bar(self):
        self.told([], notes(96, 64), [(0, 0, 1, 1, 0, 0, 0), (0, 96, 2, 0, 0, 1, 1), (1, 0, 2, 0, 0, 0, 1)])
        self.told([], [(96, 1), (64, 1)], [(0, 0, 1, 1, 1, 0, 0), (0, 96, 2, 0, 1, 0, 1), (1, 0, 2, 0, 1, 0, 1)])
        self.told([], notes(127, 2), [
            (0, 0, 1, 2, 0, 1, 0), (0, 112, 4, 2, 0, 1, 0), (0, 126, 7, 0, 0, 0, 0),
            (0, 127, 7, 0, 0, 1, 1), (1, 0, 7, 0, 0, 0, 1)])

    def test_over_the_ends_of_several_bars(self):
        self.told([], notes(64, 64 + 128 * 2 + 16, 16), [
            (0, 0, 1, 0, 0, 0, 0), (0, 64, 1, 0, 0, 1, 1), (1, 0, 0, 0, 0, 1, 1), (2, 0, 0, 0, 0, 1, 1),
            (3, 0, 3, 0, 0, 0, 1), (3, 16, 3, 0, 0, 0, 2)])
        self.told([], notes(384), [(0, 0, 0, 0, 0, 1, 0), (1, 0, 0, 0, 0, 1, 0), (2, 0, 0, 0, 0, 0, 0)])
        self.told([], [(384, 1)], [(k, 0, 0, 0, 1, 0, 0) for k in range(3)])

    def test_no_sign_goes_over_the_end_of_a_bar(self):
        # Even where every level may be crossed.
        self.told([begins(24, [3]), CROSS_ALL], notes(16, 16), [
            (0, 0, 3, 0, 0, 0, 0), (0, 16, 4, 0, 0, 1, 1), (1, 0, 4, 0, 0, 0, 1)])

    def test_bars_that_are_no_power_of_two(self):
        self.told([begins(96, [3, 2])], notes(48, 96, 32), [
            (0, 0, 2, 1, 0, 0, 0),
            (0, 48, 3, 0, 0, 1, 1), (0, 64, 2, 0, 0, 1, 1), (1, 0, 2, 1, 0, 0, 1),
            (1, 48, 3, 0, 0, 1, 2), (1, 64, 3, 0, 0, 0, 2)])
        self.told([begins(5, [5])], notes(5, 7, 2), [
            (0, 0, 5, 0, 0, 1, 0), (0, 4, 7, 0, 0, 0, 0),
            (1, 0, 5, 0, 0, 1, 1), (1, 4, 7, 0, 0, 1, 1), (2, 0, 6, 0, 0, 0, 1),
            (2, 2, 7, 0, 0, 1, 2), (2, 3, 7, 0, 0, 0, 2)])

    def test_a_bar_of_one_tick(self):
        self.told([begins(1, [])], [(3, 0), (2, 1), (1, 0)], [
            (0, 0, 7, 0, 0, 1, 0), (1, 0, 7, 0, 0, 1, 0), (2, 0, 7, 0, 0, 0, 0),
            (3, 0, 7, 0, 1, 0, 1), (4, 0, 7, 0, 1, 0, 1), (5, 0, 7, 0, 0, 0, 2)])
        self.told([begins(1, [])], [(2000, 0)], [(k, 0, 7, 0, 0, int(k < 1999), 0) for k in range(2000)])

    def test_a_bar_of_256_ticks(self):
        self.told([begins(256, [2] * 8)], notes(224, 32, 256, 192, 192), [
            (0, 0, 0, 2, 0, 0, 0), (0, 224, 2, 0, 0, 0, 1),
            (1, 0, 0, 2, 0, 1, 2), (1, 224, 2, 0, 0, 0, 2),
            (2, 0, 0, 1, 0, 0, 3), (2, 192, 1, 0, 0, 1, 4), (3, 0, 0, 0, 0, 0, 4)])

    def test_a_hundred_items(self):
        self.told([], notes(*[16] * 100), [(k // 8, k % 8 * 16, 3, 0, 0, 0, k) for k in range(100)])

    def test_two_thousand_ticks(self):
        rows = [(k, 0, 0, 0, 0, 1, 0) for k in range(15)] + [(15, 0, 1, 0, 0, 1, 0), (15, 64, 3, 0, 0, 0, 0)]
        self.told([], notes(2000), rows)


class Searched(unittest.TestCase):
    def test_voices_of_many_metres(self):
        chance = random.Random(3)
        for bar in range(1, 41):
            for partings in chance.sample(partings_of(bar), min(3, len(partings_of(bar)))):
                crossed = (chance.choice([0, 1, 2, 3, 8, 20]), chance.choice([0, 1, 2, 3, 8, 20]))
                items = [(chance.randint(1, chance.choice([4, bar, 2 * bar + 1])), chance.randrange(2))
                         for k in range(8)]
                told = ask_last(begins(bar, partings), rules(*crossed, 32), voice(items))
                self.assertEqual(told, counted(searched_voice(bar, partings, crossed, items)),
                                 (bar, partings, crossed, items))

    def test_voices_of_long_bars(self):
        items = [(37, 0), (100, 1), (91, 0), (300, 0), (5, 1), (171, 1), (64, 0)]
        for bar, partings in [(128, [2] * 7), (96, [3, 2, 2]), (225, [15, 5]), (256, [2] * 8)]:
            for crossed in [(2, 8), (8, 1)]:
                told = ask_last(begins(bar, partings), rules(*crossed, 32), voice(items))
                self.assertEqual(told, counted(searched_voice(bar, partings, crossed, items)), (bar, crossed))


if __name__ == "__main__":
    unittest.main()
