"""Orders: the soonest landings in one, or where it is stuck (point 9)."""

from downrings.errors import NoOrder
from downrings.landings import gap_end, is_too_high, joining_minutes, landing_ahead
from downrings.meadows import first_not_shut
from downrings.shapes import are_unlike
from downrings.skies import check_sky


def soonest(sky, order):
    """("lands", landings), or ("stuck", place) of the first glider that can't land in this order."""
    check_sky(sky)
    if not is_order(sky, order):
        raise NoOrder("this is no order of the sky's gliders")
    landings = soonest_landings(sky, order)
    if len(landings) < len(order):
        return ("stuck", len(landings))
    return ("lands", landings)


def is_order(sky, thing):
    many = len(sky[2])
    return are_unlike(thing, many) and len(thing) == many and thing[:len(sky[3])] == sky[3]


def soonest_landings(sky, numbers):
    """Those of these gliders, the first ones to land, that land ahead of the first one that is stuck."""
    landings = []
    for place, number in enumerate(numbers):
        minute = soonest_minute(sky, landing_ahead(sky, landings), number, place)
        if minute is None:
            return landings
        landings.append((number, minute))
        if is_too_high(sky, landings, place):
            return landings[:place]
    return landings


def fixed_landings(sky):
    """The soonest landings of the fixed ones, None where these are stuck."""
    landings = soonest_landings(sky, sky[3])
    return landings if len(landings) == len(sky[3]) else None


def soonest_minute(sky, ahead, number, place):
    """The minute of the glider behind the landing ahead, None where it comes too late for itself or for the rings."""
    kind, joins, first, last, due, weight, ring = sky[2][number]
    minute = first_not_shut(sky[0], max(first, gap_end(sky, ahead, kind)))
    if minute > last or leaves_too_late(sky, place, minute):
        return None
    return minute


def leaves_too_late(sky, place, minute):
    rings, sink, gaps, shuts = sky[0]
    joins = joining_minutes(sky)
    # When this one joins, all but those that landed ahead would wait: one more than there are rings.
    one_too_many = rings + place
    return one_too_many < len(joins) and minute - sink > joins[one_too_many]
