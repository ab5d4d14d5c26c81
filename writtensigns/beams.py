"""Beams: by how many of them the signs of a voice hang together."""

# Whole notes, halves and quarters have no flags; each sign behind these has one more.
LAST_WITHOUT_FLAGS = 2


def flag_count(sign):
    if sign.rest == 1:
        return 0
    return max(0, sign.number - LAST_WITHOUT_FLAGS)


def beams_between(sign, follower, group):
    if sign.bar != follower.bar or sign.place // group != follower.place // group:
        return 0
    return min(flag_count(sign), flag_count(follower))


def stub_count(sign, before, behind):
    most = max(before, behind)
    if most == 0:
        return 0
    return flag_count(sign) - most


# Of each sign: the beams to the next, its stubs, and 1 if more beams go to the next than to the one before, else 0.
def beamed_signs(placed, group):
    told = []
    before = 0
    for index, sign in enumerate(placed):
        behind = 0
        if index + 1 < len(placed):
            behind = beams_between(sign, placed[index + 1], group)
        told.append((behind, stub_count(sign, before, behind), 1 if behind > before else 0))
        before = behind
    return told
