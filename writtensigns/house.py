"""A house: how it writes, and the answers to the calls on it."""

from writtensigns.metre import bar_levels, part_lengths
from writtensigns.reader import Reader
from writtensigns.writing import fewest_signs, reaches

BEGINS = 0
RULES = 1
LEVEL = 2
WRITTEN = 3

REFUSED = -1

FIRST_BAR = 128
FIRST_PARTINGS = (2, 2, 2, 2, 2, 2, 2)
FIRST_CROSSED = 8
FIRST_GROUP = 32

HIGHEST_CROSSED = 20
LONGEST_GROUP = 256


class UnknownCall(ValueError):
    pass


# Each call answers a list of numbers; one that refuses changes nothing, so all is checked before anything is kept.
class House:
    def __init__(self):
        self.levels = bar_levels(FIRST_BAR, part_lengths(FIRST_BAR, FIRST_PARTINGS))
        self.notes_cross = FIRST_CROSSED
        self.rests_cross = FIRST_CROSSED
        self.group = FIRST_GROUP

    def begins(self, bar, partings):
        lengths = part_lengths(bar, partings)
        if lengths is None:
            return [REFUSED]
        self.levels = bar_levels(bar, lengths)
        return [len(partings) + 1]

    def rules(self, notes, rests, group):
        if notes > HIGHEST_CROSSED or rests > HIGHEST_CROSSED or group < 1 or group > LONGEST_GROUP:
            return [REFUSED]
        self.notes_cross = notes
        self.rests_cross = rests
        self.group = group
        return [0]

    def level(self, place):
        if place >= len(self.levels):
            return [REFUSED]
        return [self.levels[place]]

    def written(self, start, to, rest):
        if to <= start or to > len(self.levels):
            return [REFUSED]
        crossed = self.rests_cross if rest == 1 else self.notes_cross
        row = fewest_signs(reaches(self.levels, crossed), start, to)
        answer = [len(row)]
        for sign in row:
            answer.extend([sign[0], sign[1]])
        return answer


def answer_call(house, reader):
    call = reader.take()
    if call == BEGINS:
        bar = reader.take()
        return house.begins(bar, reader.take_row())
    if call == RULES:
        notes = reader.take()
        rests = reader.take()
        return house.rules(notes, rests, reader.take())
    if call == LEVEL:
        return house.level(reader.take())
    if call == WRITTEN:
        start = reader.take()
        to = reader.take()
        return house.written(start, to, reader.take())
    raise UnknownCall(f"no call has the number {call}")


def answers(calls):
    house = House()
    reader = Reader(calls)
    told = []
    while reader.has_more():
        answer = answer_call(house, reader)
        told.append(len(answer))
        told.extend(answer)
    return told
