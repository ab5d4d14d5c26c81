"""Promise 1: rules."""

import unittest

from helper import LARGEST, ask, beams, begins, notes, rules, written

# From 16 to 48 of the first metre: a quarter if the place 32 (level 2) may be crossed, else two eighths.
ACROSS = [1, 2, 0]
PARTED = [2, 3, 0, 3, 0]


class Rules(unittest.TestCase):
    def answers(self, notes, rests, group, expected):
        self.assertEqual(ask(rules(notes, rests, group)), [[expected]], (notes, rests, group))

    def test_answers_nought(self):
        self.answers(8, 8, 32, 0)
        self.answers(2, 5, 48, 0)
        self.answers(0, 0, 1, 0)

    def test_levels_at_their_edges(self):
        self.answers(20, 8, 32, 0)
        self.answers(21, 8, 32, -1)
        self.answers(8, 20, 32, 0)
        self.answers(8, 21, 32, -1)
        self.answers(20, 20, 256, 0)
        self.answers(LARGEST, 8, 32, -1)
        self.answers(8, LARGEST, 32, -1)

    def test_groups_at_their_edges(self):
        self.answers(8, 8, 0, -1)
        self.answers(8, 8, 1, 0)
        self.answers(8, 8, 256, 0)
        self.answers(8, 8, 257, -1)
        self.answers(8, 8, LARGEST, -1)

    def test_notes_and_rests_have_their_own_level(self):
        self.assertEqual(ask(rules(2, 8, 32), written(16, 48, 0), written(16, 48, 1)), [[0], ACROSS, PARTED])
        self.assertEqual(ask(rules(8, 2, 32), written(16, 48, 0), written(16, 48, 1)), [[0], PARTED, ACROSS])

    def test_a_level_is_crossed_from_itself_on(self):
        for crossed in range(21):
            expected = ACROSS if crossed <= 2 else PARTED
            told = ask(rules(crossed, 20, 32), written(16, 48, 0), written(16, 48, 1))
            self.assertEqual(told, [[0], expected, PARTED], crossed)

    def test_the_first_rules(self):
        self.assertEqual(ask(written(16, 48, 0), written(16, 48, 1)), [PARTED, PARTED])
        # Parts of 3 ticks, their inner places of level 7: the deepest that two neighbours can have, and not crossed.
        metre = begins(192, [2] * 6)
        told = ask(metre, written(1, 3, 0), written(1, 3, 1), rules(7, 8, 32), written(1, 3, 0), written(1, 3, 1))
        two = [2, 7, 0, 7, 0]
        self.assertEqual(told, [[7], two, two, [0], [1, 6, 0], two])

    def test_a_refusal_leaves_the_rules(self):
        for refused in [(21, 0, 32), (0, 21, 32), (8, 2, 0), (8, 2, 257), (LARGEST, LARGEST, LARGEST)]:
            told = ask(rules(2, 8, 32), rules(*refused), written(16, 48, 0), written(16, 48, 1))
            self.assertEqual(told, [[0], [-1], ACROSS, PARTED], refused)

    def test_a_refusal_leaves_the_first_rules(self):
        for refused in [(21, 0, 32), (0, 21, 32), (0, 0, 0), (0, 0, 257)]:
            told = ask(rules(*refused), written(16, 48, 0), written(16, 48, 1))
            self.assertEqual(told, [[-1], PARTED, PARTED], refused)

    def test_the_group_is_kept(self):
        eighths = beams(notes(16, 16, 16, 16))
        pairs = [4, 1, 0, 1, 0, 0, 0, 1, 0, 1, 0, 0, 0]
        three_and_one = [4, 1, 0, 1, 1, 0, 0, 0, 0, 0, 0, 0, 0]
        self.assertEqual(ask(eighths, rules(8, 8, 48), eighths), [pairs, [0], three_and_one])
        for refused in [(21, 8, 16), (8, 21, 16), (8, 8, 0), (8, 8, 257)]:
            told = ask(rules(*refused), eighths, rules(8, 8, 48), rules(*refused), eighths)
            self.assertEqual(told, [[-1], pairs, [0], [-1], three_and_one], refused)

    def test_a_new_metre_leaves_the_group(self):
        told = ask(rules(8, 8, 48), begins(64, [2, 2, 2]), beams(notes(16, 16, 16, 16)))
        self.assertEqual(told[2], [4, 1, 0, 1, 1, 0, 0, 0, 0, 0, 0, 0, 0])

    def test_a_new_metre_leaves_the_rules(self):
        # 16 has level 2, and the other places from 8 to 24 level 3.
        told = ask(rules(2, 8, 32), begins(64, [2, 2]), written(8, 24, 0), written(8, 24, 1))
        self.assertEqual(told, [[0], [3], [1, 3, 0], [9] + [7, 0] * 8 + [4, 0]])


if __name__ == "__main__":
    unittest.main()
