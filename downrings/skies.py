"""Skies: the gliders that come to a meadow, and which of them land first (point 5)."""

from downrings.errors import NoSky
from downrings.meadows import is_kind, is_meadow
from downrings.shapes import are_unlike, is_minute, is_tuple, is_within

MOST_GLIDERS = 7
MOST_WEIGHT = 99


def is_sky(thing):
    """True or False, of anything."""
    if not is_tuple(thing, 4, 4):
        return False
    meadow, ahead, gliders, fixed = thing
    # The meadow goes first: what kinds, rings and sink there are is read from it.
    return is_meadow(meadow) and is_ahead(meadow, ahead) and are_gliders(meadow, gliders) and are_fixed(gliders, fixed)


def is_ahead(meadow, thing):
    if thing is None:
        return True
    return is_tuple(thing, 2, 2) and is_kind(meadow, thing[0]) and is_minute(thing[1])


def are_gliders(meadow, thing):
    return is_tuple(thing, 0, MOST_GLIDERS) and all([is_glider(meadow, part) for part in thing])


def is_glider(meadow, thing):
    if not is_tuple(thing, 7, 7):
        return False
    kind, joins, first, last, due, weight, ring = thing
    if not all([is_minute(minute) for minute in (joins, first, last, due)]):
        return False
    if not joins + meadow[1] <= first <= last:
        return False
    return is_kind(meadow, kind) and is_within(weight, 0, MOST_WEIGHT) and is_within(ring, 0, meadow[0])


def are_fixed(gliders, thing):
    if not are_unlike(thing, len(gliders)):
        return False
    return all([glider[6] == 0 or number in thing for number, glider in enumerate(gliders)])


def free_ones(sky):
    """The numbers of the gliders that aren't fixed, rising."""
    return tuple([number for number in range(len(sky[2])) if number not in sky[3]])


def check_sky(thing):
    if not is_sky(thing):
        raise NoSky("this is no sky")
