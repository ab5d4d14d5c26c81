"""What the tests share: calls as lists, answers taken apart, and the document's words put as plain searches."""

from writtensigns.house import answers

LARGEST = 4294967295


def begins(bar, partings):
    return [0, bar, len(partings), *partings]


def rules(notes, rests, group):
    return [1, notes, rests, group]


def level(place):
    return [2, place]


def written(start, to, rest=0):
    return [3, start, to, rest]


def row_of(items):
    """Items, each a pair of a length and 1 for a rest or 0 for a note, as one row with its size ahead."""
    return [2 * len(items), *[number for item in items for number in item]]


def voice(items):
    return [4, *row_of(items)]


def beams(items):
    return [5, *row_of(items)]


def tuplet(n, time):
    return [6, n, time]


def signs():
    return [7]


def notes(*lengths):
    return [(length, 0) for length in lengths]


def split(told):
    """The answers of one list, each a list of its own."""
    parts = []
    at = 0
    while at < len(told):
        size = told[at]
        part = told[at + 1:at + 1 + size]
        if size < 1 or len(part) != size:
            raise AssertionError(f"the answer at {at} of {told} isn't whole")
        parts.append(part)
        at += 1 + size
    return parts


def ask(*calls):
    """Each call's answer, the calls lying in one list."""
    parts = split(answers([number for call in calls for number in call]))
    if len(parts) != len(calls):
        raise AssertionError(f"{len(calls)} calls, {len(parts)} answers")
    return parts


def ask_last(*calls):
    return ask(*calls)[-1]


def ask_many(first, calls):
    """The answers to calls, however many; the calls of first come ahead in each list and aren't told."""
    told = []
    room = 100 - len(first)
    for at in range(0, len(calls), room):
        told.extend(ask(*first, *calls[at:at + room])[len(first):])
    return told


def counted(rows):
    return [len(rows), *[number for row in rows for number in row]]


def all_signs():
    """Length to (number, dots), made from the words: each dot adds half of what was added before."""
    signs = {}
    for number in range(8):
        length = added = 128 >> number
        signs[length] = (number, 0)
        for dots in (1, 2):
            if added % 2:
                break
            added //= 2
            length += added
            signs[length] = (number, dots)
    return signs


SIGNS = all_signs()


def as_answer(lengths):
    told = [len(lengths)]
    for length in lengths:
        told.extend(SIGNS[length])
    return told


def searched_levels(bar, partings):
    """The level of each place, by parting the bar part by part."""
    levels = [None] * bar
    parts = [(0, bar)]
    levels[0] = 0
    for number, parting in enumerate(partings, start=1):
        smaller = []
        for start, length in parts:
            for k in range(parting):
                smaller.append((start + k * (length // parting), length // parting))
        parts = smaller
        for start, _ in parts:
            if levels[start] is None:
                levels[start] = number
    return [len(partings) + 1 if found is None else found for found in levels]


def may_stand(levels, crossed, start, length):
    return all(levels[x] > levels[start] or levels[x] >= crossed for x in range(start + 1, start + length))


def every_row(levels, crossed, start, to):
    """Every row of signs, each where it may stand, from start to to."""
    if start == to:
        return [[]]
    rows = []
    for length in SIGNS:
        if start + length <= to and may_stand(levels, crossed, start, length):
            rows.extend([length] + row for row in every_row(levels, crossed, start + length, to))
    return rows


def rank(row):
    return (len(row), [-length for length in row])


def best_rows(levels, crossed, to):
    """From each place to to the best row, where every row is too many: whole rows are compared."""
    best = {to: []}
    for start in range(to - 1, -1, -1):
        standing = [length for length in SIGNS
                    if start + length <= to and may_stand(levels, crossed, start, length)]
        best[start] = min(([length] + best[start + length] for length in standing), key=rank)
    return best


def partings_of(bar):
    """All partings that part a bar into whole ticks."""
    found = [[]]
    for parting in range(2, min(bar, 16) + 1):
        if bar % parting == 0:
            found.extend([parting] + rest for rest in partings_of(bar // parting))
    return found


def searched_voice(bar, partings, crossed, items):
    """The rows of numbers that voice tells, found tick by tick; crossed has the levels of notes and of rests."""
    levels = searched_levels(bar, partings)
    found = []
    time = 0
    for index, (length, rest) in enumerate(items):
        in_bars = {}
        for tick in range(time, time + length):
            in_bars.setdefault(tick // bar, []).append(tick % bar)
        own = []
        for number, places in in_bars.items():
            place = places[0]
            for sign in best_rows(levels, crossed[rest], places[-1] + 1)[place]:
                own.append([number, place, *SIGNS[sign], rest, 1 - rest, index])
                place += sign
        own[-1][5] = 0
        found.extend(own)
        time += length
    return found


def searched_beams(rows, group):
    """The rows of numbers that beams tells, from the rows that voice tells."""
    def together(i, k):
        if i < 0 or k >= len(rows) or rows[i][0] != rows[k][0]:
            return 0
        one_group = any(first <= rows[i][1] and rows[k][1] < first + group for first in range(0, 256, group))
        return min(flags[i], flags[k]) if one_group else 0

    flags = [0 if row[4] else (0, 0, 0, 1, 2, 3, 4, 5)[row[2]] for row in rows]
    found = []
    for k in range(len(rows)):
        left = together(k - 1, k)
        right = together(k, k + 1)
        stubs = flags[k] - max(left, right) if left or right else 0
        found.append([right, stubs, 1 if right > left else 0])
    return found
