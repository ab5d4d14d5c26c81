"""A house: how it writes, and the answers to the calls on it."""

from writtensigns.beams import beamed_signs
from writtensigns.metre import bar_levels, part_lengths
from writtensigns.reader import Reader
from writtensigns.signs import SIGNS
from writtensigns.tuplet import lowest_terms, may_be_tuplet, tuplet_sign
from writtensigns.voice import voice_items, voice_signs
from writtensigns.writing import fewest_signs, reaches

BEGINS = 0
RULES = 1
LEVEL = 2
WRITTEN = 3
VOICE = 4
BEAMS = 5
TUPLET = 6
SIGNS_CALL = 7

REFUSED = -1
TOO_SHORT = -6

FIRST_BAR = 128
FIRST_PARTINGS = (2, 2, 2, 2, 2, 2, 2)
FIRST_CROSSED = 8
FIRST_GROUP = 32

HIGHEST_CROSSED = 20
LONGEST_GROUP = 256


class UnknownCall(ValueError):
    pass


# How many rows there are, then the numbers of each.
def counted(rows):
    answer = [len(rows)]
    for row in rows:
        answer.extend(row)
    return answer


# Each call answers a list of numbers; one that refuses changes nothing, so all is checked before anything is kept.
class House:
    def __init__(self):
        self.levels = bar_levels(FIRST_BAR, part_lengths(FIRST_BAR, FIRST_PARTINGS))
        self.notes_cross = FIRST_CROSSED
        self.rests_cross = FIRST_CROSSED
        self.group = FIRST_GROUP

    def begins(self, bar, partings):
        lengths = part_lengths(bar, partings)
        if lengths is None:
            return [REFUSED]
        self.levels = bar_levels(bar, lengths)
        return [len(partings) + 1]

    def rules(self, notes, rests, group):
        if notes > HIGHEST_CROSSED or rests > HIGHEST_CROSSED or group < 1 or group > LONGEST_GROUP:
            return [REFUSED]
        self.notes_cross = notes
        self.rests_cross = rests
        self.group = group
        return [0]

    def level(self, place):
        if place >= len(self.levels):
            return [REFUSED]
        return [self.levels[place]]

    def written(self, start, to, rest):
        if to <= start or to > len(self.levels):
            return [REFUSED]
        row = fewest_signs(self.furthest(rest), start, to)
        return counted([(sign[0], sign[1]) for sign in row])

    # For each place of the bar, where a sign of a note (rest 0) or of a rest (1) may end at the furthest.
    def furthest(self, rest):
        return reaches(self.levels, self.rests_cross if rest == 1 else self.notes_cross)

    # None if the numbers are no voice.
    def placed_signs(self, numbers):
        items = voice_items(numbers)
        if items is None:
            return None
        return voice_signs((self.furthest(0), self.furthest(1)), items)

    def voice(self, numbers):
        placed = self.placed_signs(numbers)
        if placed is None:
            return [REFUSED]
        return counted([(sign.bar, sign.place, sign.number, sign.dots, sign.rest, sign.tied, sign.item)
                        for sign in placed])

    def beams(self, numbers):
        placed = self.placed_signs(numbers)
        if placed is None:
            return [REFUSED]
        return counted(beamed_signs(placed, self.group))

    def tuplet(self, n, time):
        if not may_be_tuplet(n, time):
            return [REFUSED]
        sign = tuplet_sign(n, time)
        if sign is None:
            return [TOO_SHORT]
        terms = lowest_terms(n * sign[2], time)
        return [0, sign[0], terms[0], terms[1]]

    def signs(self):
        return counted(SIGNS)


def answer_call(house, reader):
    call = reader.take()
    if call == BEGINS:
        bar = reader.take()
        return house.begins(bar, reader.take_row())
    if call == RULES:
        notes = reader.take()
        rests = reader.take()
        return house.rules(notes, rests, reader.take())
    if call == LEVEL:
        return house.level(reader.take())
    if call == WRITTEN:
        start = reader.take()
        to = reader.take()
        return house.written(start, to, reader.take())
    if call == VOICE:
        return house.voice(reader.take_row())
    if call == BEAMS:
        return house.beams(reader.take_row())
    if call == TUPLET:
        n = reader.take()
        return house.tuplet(n, reader.take())
    if call == SIGNS_CALL:
        return house.signs()
    raise UnknownCall(f"no call has the number {call}")


def answers(calls):
    house = House()
    reader = Reader(calls)
    told = []
    while reader.has_more():
        answer = answer_call(house, reader)
        told.append(len(answer))
        told.extend(answer)
    return told
