"""Tuplets: so many alike notes in a time."""

from writtensigns.signs import SIGNS

MOST_NOTES = 64
LONGEST_TIME = 256


def may_be_tuplet(n, time):
    return 1 <= n <= MOST_NOTES and 1 <= time <= LONGEST_TIME


# The shortest sign without dots of which n fill the time; None if n of the longest don't.
def tuplet_sign(n, time):
    for sign in reversed(SIGNS):
        if sign[1] == 0 and n * sign[2] >= time:
            return sign
    return None


def common_measure(one, other):
    while other > 0:
        left = one % other
        one = other
        other = left
    return one


# How many stand for how many: all n signs to the time, in lowest terms.
def lowest_terms(together, time):
    measure = common_measure(together, time)
    return (together // measure, time // measure)
