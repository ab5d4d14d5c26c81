"""Metres: how a bar is parted, and the level of each of its places."""

LONGEST_BAR = 256
MOST_PARTINGS = 8
SMALLEST_PARTING = 2
LARGEST_PARTING = 16


# How long the parts of each parting are; None if the bar can't be parted so.
def part_lengths(bar, partings):
    if bar < 1 or bar > LONGEST_BAR or len(partings) > MOST_PARTINGS:
        return None
    lengths = []
    length = bar
    for parting in partings:
        if parting < SMALLEST_PARTING or parting > LARGEST_PARTING or length % parting != 0:
            return None
        length = length // parting
        lengths.append(length)
    return lengths


def place_level(place, lengths):
    if place == 0:
        return 0
    for number, length in enumerate(lengths, start=1):
        if place % length == 0:
            return number
    return len(lengths) + 1


def bar_levels(bar, lengths):
    return [place_level(place, lengths) for place in range(bar)]
