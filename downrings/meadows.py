"""Meadows: what is one, and when it isn't shut (point 4)."""

from downrings.errors import NoMeadow
from downrings.shapes import is_minute, is_tuple, is_within

MOST_RINGS = 8
MOST_SINK = 60
MOST_KINDS = 4
MOST_GAP = 99
MOST_SHUTS = 4


def is_meadow(thing):
    """True or False, of anything."""
    if not is_tuple(thing, 4, 4):
        return False
    rings, sink, gaps, shuts = thing
    return is_within(rings, 0, MOST_RINGS) and is_within(sink, 0, MOST_SINK) and are_gaps(gaps) and are_shuts(shuts)


def are_gaps(thing):
    if not is_tuple(thing, 1, MOST_KINDS):
        return False
    return all([is_gap_row(row, len(thing)) for row in thing]) and no_glider_between_helps(thing)


def is_gap_row(thing, many):
    return is_tuple(thing, many, many) and all([is_within(gap, 1, MOST_GAP) for gap in thing])


def no_glider_between_helps(gaps):
    kinds = list(range(len(gaps)))
    return all([gaps[a][b] <= gaps[a][c] + gaps[c][b] for a in kinds for b in kinds for c in kinds])


def are_shuts(thing):
    if not is_tuple(thing, 0, MOST_SHUTS) or not all([is_stretch(part) for part in thing]):
        return False
    # Stretches that touch would be one, so a begin must be beyond the end ahead, not at it.
    return all([thing[at][0] > thing[at - 1][1] for at in range(1, len(thing))])


def is_stretch(thing):
    return is_tuple(thing, 2, 2) and is_minute(thing[0]) and is_minute(thing[1]) and thing[0] < thing[1]


def is_kind(meadow, thing):
    return is_within(thing, 0, len(meadow[2]) - 1)


def is_shut(meadow, minute):
    return any([begin <= minute < end for begin, end in meadow[3]])


def first_not_shut(meadow, minute):
    for begin, end in meadow[3]:
        if begin <= minute < end:
            # No two stretches touch, so the end of one is never within another.
            return end
    return minute


def open_from(meadow, minute):
    """The first minute from this whole number on, of whatever size, at which the meadow isn't shut."""
    check_meadow(meadow)
    return first_not_shut(meadow, minute)


def check_meadow(thing):
    if not is_meadow(thing):
        raise NoMeadow("this is no meadow")
