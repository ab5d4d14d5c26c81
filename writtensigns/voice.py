"""Voices: items one behind the other, written by signs over bars."""

from writtensigns.writing import fewest_signs

MOST_ITEMS = 100
MOST_TICKS = 2000


# A sign that stands in a voice; rest and tied are 1 or 0, because they are answered so.
class PlacedSign:
    def __init__(self, bar, place, sign, rest, tied, item):
        self.bar = bar
        self.place = place
        self.number = sign[0]
        self.dots = sign[1]
        self.rest = rest
        self.tied = tied
        self.item = item


# Of each item its length, and 1 if it is a rest, else 0; None if they are no voice that is written.
def voice_items(numbers):
    lengths = numbers[0::2]
    rests = numbers[1::2]
    if len(lengths) > MOST_ITEMS or 0 in lengths or sum(lengths) > MOST_TICKS:
        return None
    return list(zip(lengths, rests))


# The time from begin to end, parted at bars' ends: of each part where it starts and ends in its bar.
def bar_stretches(begin, end, bar):
    stretches = []
    time = begin
    while time < end:
        start = time % bar
        to = min(bar, start + end - time)
        stretches.append((start, to))
        time = time + to - start
    return stretches


# The signs of one item; furthest is where signs of its kind may end, for each place of the bar.
def item_signs(furthest, begin, end, rest, item):
    bar = len(furthest)
    placed = []
    time = begin
    for start, to in bar_stretches(begin, end, bar):
        for sign in fewest_signs(furthest, start, to):
            behind = time + sign[2]
            tied = 1 if rest == 0 and behind < end else 0
            placed.append(PlacedSign(time // bar, time % bar, sign, rest, tied, item))
            time = behind
    return placed


# The signs of all items; furthest has two lists, of notes and of rests.
def voice_signs(furthest, items):
    placed = []
    time = 0
    for index, item in enumerate(items):
        end = time + item[0]
        placed.extend(item_signs(furthest[item[1]], time, end, item[1], index))
        time = end
    return placed
