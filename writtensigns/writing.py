"""Writing a stretch of a bar by as few signs as can be."""

from writtensigns.signs import SIGNS


# For each place of the bar, the furthest place where a sign that begins there may end.
def reaches(levels, crossed):
    bar = len(levels)
    furthest = [bar] * bar
    # At index k: the nearest place behind the walked one that a sign beginning on level k must not hide.
    nearest = [bar] * (max(levels) + 1)
    for place in range(bar - 1, -1, -1):
        level = levels[place]
        furthest[place] = nearest[level]
        if level < crossed:
            for hidden in range(level, len(nearest)):
                nearest[hidden] = place
    return furthest


# As few signs as can be from start to to; of rows of as few, the one whose first sign is longest, then second, ..
def fewest_signs(furthest, start, to):
    counts = [0] * (to + 1)
    firsts = [None] * (to + 1)
    # From the end on, so that what is left behind a sign is known already.
    for place in range(to - 1, start - 1, -1):
        limit = min(to, furthest[place])
        for sign in SIGNS:
            end = place + sign[2]
            # The longest sign is tried first and only a shorter row replaces it, so it wins among equals.
            if end <= limit and (firsts[place] is None or counts[end] + 1 < counts[place]):
                counts[place] = counts[end] + 1
                firsts[place] = sign
    row = []
    place = start
    while place < to:
        row.append(firsts[place])
        place = place + firsts[place][2]
    return row
