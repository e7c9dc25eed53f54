"""The plain shapes that are asked for everywhere: whole numbers, minutes, tuples of some length."""

LAST_MINUTE = 9999


def is_whole(thing):
    # Python counts True and False as ints; they are no whole numbers here.
    return isinstance(thing, int) and not isinstance(thing, bool)


def is_within(thing, least, most):
    return is_whole(thing) and least <= thing <= most


def is_minute(thing):
    return is_within(thing, 0, LAST_MINUTE)


def is_tuple(thing, least, most):
    return isinstance(thing, tuple) and least <= len(thing) <= most
