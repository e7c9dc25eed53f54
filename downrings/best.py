"""The best: the first order of the least last landing, and that of the least cost (point 10)."""

from downrings.landings import glider_cost, landing_ahead
from downrings.orders import fixed_landings, soonest_minute
from downrings.shapes import without
from downrings.skies import check_sky, free_ones


def least_last(sky):
    """("order", number, order), or None where no landings keep the sky."""
    check_sky(sky)
    return told(best_order(sky, "last"))


def least_cost(sky):
    """("order", number, order), or None where no landings keep the sky."""
    check_sky(sky)
    return told(best_order(sky, "cost"))


def told(best):
    if best is None:
        return None
    number, order = best
    return ("order", number, order)


def best_order(sky, aim):
    """The least number by this aim and an order that has it, or None where no landings keep the sky.

    By the aims "last" and "cost" it is the first such order; by "most" it is some one.
    """
    landings = fixed_landings(sky)
    if landings is None:
        return None
    best = best_behind(sky, aim, landing_ahead(sky, landings), free_ones(sky), {})
    if best is None:
        return None
    number, order = best
    for glider, minute in landings[::-1]:
        number = joined(aim, sky[2][glider], minute, number)
    return (number, sky[3] + order)


def joined(aim, glider, minute, number):
    """The number by this aim of a landing and of those behind it together, theirs being told."""
    if aim == "last":
        return max(minute, number)
    if aim == "cost":
        return glider_cost(glider, minute) + number
    # By "most" each cost is taken by itself, and the greatest of them counts.
    return max(glider_cost(glider, minute), number)


def best_behind(sky, aim, ahead, left, known):
    """The least number, and its first order, of those left behind the landing ahead, or None; known is filled."""
    if not left:
        return (0, ())
    # How those ahead came to land changes nothing but this, so many orders share one answer.
    key = (ahead, left)
    if key not in known:
        ways = [best_with(sky, aim, ahead, left, number, known) for number in left]
        known[key] = min([way for way in ways if way is not None], default=None)
    return known[key]


def best_with(sky, aim, ahead, left, number, known):
    """As best_behind tells, with this glider as the next one to land."""
    minute = soonest_minute(sky, ahead, number, len(sky[2]) - len(left))
    if minute is None:
        return None
    glider = sky[2][number]
    best = best_behind(sky, aim, (glider[0], minute), without(left, number), known)
    if best is None:
        return None
    return (joined(aim, glider, minute, best[0]), (number,) + best[1])
