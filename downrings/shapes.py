"""The plain shapes that are asked for everywhere: whole numbers, minutes, tuples of some length, numbers of gliders."""

LAST_MINUTE = 9999
FIGURES = "0123456789"
MOST_FIGURES = 40


def is_whole(thing):
    # Python counts True and False as ints; they are no whole numbers here.
    return isinstance(thing, int) and not isinstance(thing, bool)


def is_within(thing, least, most):
    return is_whole(thing) and least <= thing <= most


def is_minute(thing):
    return is_within(thing, 0, LAST_MINUTE)


def is_tuple(thing, least, most):
    return isinstance(thing, tuple) and least <= len(thing) <= most


def are_unlike(thing, many):
    """Whether it is a tuple of unlike numbers of so many gliders, perhaps of none."""
    if not is_tuple(thing, 0, many) or not all([is_within(number, 0, many - 1) for number in thing]):
        return False
    return all([thing.count(number) == 1 for number in thing])


def are_rising(thing, many):
    """Whether it is a rising tuple of numbers of so many gliders, perhaps of none."""
    return are_unlike(thing, many) and list(thing) == sorted(thing)


def without(numbers, number):
    return tuple([other for other in numbers if other != number])


def lots_of(numbers):
    """All rising tuples of these rising numbers, that of none first, each behind those that are within it."""
    lots = [()]
    for number in numbers:
        lots = lots + [lot + (number,) for lot in lots]
    return lots


def number_in(word):
    """The whole number that is written by this word, or None."""
    if not 1 <= len(word) <= MOST_FIGURES or not all([sign in FIGURES for sign in word]):
        return None
    if word[0] == "0" and word != "0":
        return None
    return int(word)
