"""Tables: rows by which anybody checks that no landings do better (points 11 and 12)."""

from downrings.landings import cost_together, glider_cost, is_pair, landing_ahead
from downrings.orders import fixed_landings, soonest_minute
from downrings.shapes import are_rising, is_tuple, is_whole, lots_of, without
from downrings.skies import check_sky, free_ones


def shows(sky, thing):
    """None, ("none",) or ("least", minute, cost), of anything."""
    check_sky(sky)
    if not is_table(sky, thing):
        return None
    known = {}
    for lot, last, corners in thing:
        if (lot, last) in known or not is_right(sky, known, lot, last, corners):
            return None
        known[(lot, last)] = corners
    return shown_by(sky, known)


def table_of(sky):
    """Some table that shows ("none",), or the least last landing and the least cost."""
    check_sky(sky)
    known = {}
    for lot in lots_of(free_ones(sky)):
        # That of none has no last one, and so no row.
        for last in lot:
            known[(lot, last)] = tuple(least_corners(reached_corners(sky, known, lot, last)))
    return tuple([(lot, last, corners) for (lot, last), corners in known.items()])


def is_table(sky, thing):
    return isinstance(thing, tuple) and all([is_row(sky, part) for part in thing])


def is_row(sky, thing):
    if not is_tuple(thing, 3, 3):
        return False
    lot, last, corners = thing
    # A lot of none has no last one, so it needs no look of its own.
    return are_free_ones(sky, lot) and is_whole(last) and last in lot and are_corners(corners)


def are_free_ones(sky, thing):
    return are_rising(thing, len(sky[2])) and not any([number in sky[3] for number in thing])


def are_corners(thing):
    return isinstance(thing, tuple) and all([is_pair(part) and part[1] >= 0 for part in thing])


def is_right(sky, known, lot, last, corners):
    """Whether a row is right, known being the corners of the rows ahead, by lot and last."""
    reached = reached_corners(sky, known, lot, last)
    if reached is None:
        return False
    # What is reached adds no corner to the least ones just where each of it has one that is no greater.
    return least_corners(list(corners) + reached) == least_corners(corners)


def least_corners(corners):
    """Those that have no other one no greater in minute nor in cost: by rising minutes, and so by falling costs."""
    least = []
    for minute, cost in sorted(corners):
        if not least or cost < least[-1][1]:
            least.append((minute, cost))
    return least


def reached_corners(sky, known, lot, last):
    """All that is reached with last as the last one of lot, None where a row that is needed for it lacks."""
    sooner = without(lot, last)
    if not sooner:
        return reached_from_start(sky, last)
    if not all([(sooner, other) in known for other in sooner]):
        return None
    reached = []
    for other in sooner:
        kind = sky[2][other][0]
        for minute, cost in known[(sooner, other)]:
            reached += reached_from(sky, (kind, minute), cost, last, len(sky[3]) + len(sooner))
    return reached


def reached_from_start(sky, number):
    landings = fixed_landings(sky)
    if landings is None:
        return []
    return reached_from(sky, landing_ahead(sky, landings), cost_together(sky, landings), number, len(landings))


def reached_from(sky, ahead, cost, number, place):
    """A list of the one corner that is reached by this glider, or of none."""
    minute = soonest_minute(sky, ahead, number, place)
    if minute is None:
        return []
    return [(minute, cost + glider_cost(sky[2][number], minute))]


def shown_by(sky, known):
    """What right rows show, known being their corners by lot and last."""
    free = free_ones(sky)
    if not free:
        return shown_by_start(sky)
    if not all([(free, last) in known for last in free]):
        return None
    return shown_by_corners([corner for last in free for corner in known[(free, last)]])


def shown_by_start(sky):
    landings = fixed_landings(sky)
    if landings is None:
        return ("none",)
    # The landing ahead is none of the sky's own landings, so it doesn't count where there are none.
    return ("least", landings[-1][1] if landings else 0, cost_together(sky, landings))


def shown_by_corners(corners):
    if not corners:
        return ("none",)
    return ("least", min([minute for minute, cost in corners]), min([cost for minute, cost in corners]))
