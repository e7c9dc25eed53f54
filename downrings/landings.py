"""Landings: whether they keep a sky, what is amiss with them, and what they cost (points 6 to 8)."""

from downrings.errors import NoLandings
from downrings.meadows import is_shut
from downrings.shapes import is_tuple, is_whole
from downrings.skies import check_sky

MOST_LANDINGS = 20


def keeps(sky, thing):
    """True or False, of anything."""
    check_sky(sky)
    return keeps_sky(sky, thing)


def amiss(sky, landings):
    """The first thing that is amiss, as a tuple of a word and a number, or None."""
    check_sky(sky)
    if not are_pairs(landings):
        raise NoLandings("this is no list of at most twenty tuples of two whole numbers")
    return first_amiss(sky, landings)


def last_of(sky, landings):
    """The greatest minute of landings that keep the sky, 0 where there is none."""
    check_keeps(sky, landings)
    return max([minute for glider, minute in landings], default=0)


def cost_of(sky, landings):
    """What landings that keep the sky cost together."""
    check_keeps(sky, landings)
    return cost_together(sky, landings)


def cost_together(sky, landings):
    return sum([glider_cost(sky[2][glider], minute) for glider, minute in landings])


def glider_cost(glider, minute):
    kind, joins, first, last, due, weight, ring = glider
    return weight * max(0, minute - due)


def check_keeps(sky, thing):
    check_sky(sky)
    if not keeps_sky(sky, thing):
        raise NoLandings("these are no landings that keep the sky")


def keeps_sky(sky, thing):
    # No sky has as many gliders as are_pairs lets through, so nothing that keeps one is lost by it.
    return are_pairs(thing) and first_amiss(sky, thing) is None


def are_pairs(thing):
    if not isinstance(thing, list) or len(thing) > MOST_LANDINGS:
        return False
    return all([is_pair(part) for part in thing])


def is_pair(thing):
    return is_tuple(thing, 2, 2) and is_whole(thing[0]) and is_whole(thing[1])


def first_amiss(sky, landings):
    for place in range(len(landings)):
        word = landing_amiss(sky, landings, place)
        if word is not None:
            return (word, landings[place][0])
    lacking = first_lacking(sky, landings)
    if lacking is not None:
        return ("lacks", lacking)
    crowded = first_crowded(sky, landings)
    if crowded is not None:
        return ("rings", crowded)
    high = first_too_high(sky, landings)
    if high is not None:
        return ("ring", high)
    return None


def landing_amiss(sky, landings, place):
    """The word for what is amiss with one landing, or None; with those ahead of it nothing is."""
    meadow, ahead, gliders, fixed = sky
    glider = landings[place][0]
    if not 0 <= glider < len(gliders):
        return "none"
    if glider in [other for other, minute in landings[:place]]:
        return "twice"
    if place < len(fixed) and glider != fixed[place]:
        return "order"
    return minute_amiss(sky, landings, place)


def minute_amiss(sky, landings, place):
    meadow, ahead, gliders, fixed = sky
    number, minute = landings[place]
    kind, joins, first, last, due, weight, ring = gliders[number]
    if minute < first:
        return "soon"
    if minute > last:
        return "late"
    if is_shut(meadow, minute):
        return "shut"
    if minute < gap_end(sky, landing_ahead(sky, landings[:place]), kind):
        return "gap"
    return None


def landing_ahead(sky, sooner):
    """Kind and minute of the last landing so far, be it the one ahead of all, or None."""
    if not sooner:
        return sky[1]
    number, minute = sooner[-1]
    return (sky[2][number][0], minute)


def gap_end(sky, ahead, kind):
    """The first minute that keeps the gap behind the landing ahead, 0 where there is none."""
    if ahead is None:
        return 0
    return ahead[1] + sky[0][2][ahead[0]][kind]


def first_lacking(sky, landings):
    landed = [glider for glider, minute in landings]
    for number in range(len(sky[2])):
        if number not in landed:
            return number
    return None


def waits_at(sky, landing, minute):
    number, lands = landing
    return sky[2][number][1] <= minute < lands - sky[0][1]


def how_many_wait(sky, landings, minute):
    return len([landing for landing in landings if waits_at(sky, landing, minute)])


def joining_minutes(sky):
    return sorted([glider[1] for glider in sky[2]])


def first_crowded(sky, landings):
    # More wait than a minute ago only where one joins, so no other minutes need be looked at.
    for minute in joining_minutes(sky):
        if how_many_wait(sky, landings, minute) > sky[0][0]:
            return minute
    return None


def first_too_high(sky, landings):
    for place, landing in enumerate(landings):
        if is_too_high(sky, landings, place):
            return landing[0]
    return None


def is_too_high(sky, landings, place):
    """Whether the glider landing at this place needs a higher ring than it may hold."""
    kind, joins, first, last, due, weight, ring = sky[2][landings[place][0]]
    # It only ever comes down, so the ring that it needs when it joins is the highest one.
    return ring > 0 and waits_at(sky, landings[place], joins) and ring_needed(sky, landings, place, joins) > ring


def ring_needed(sky, landings, place, minute):
    """The ring that the glider landing at this place needs at a minute at which it waits."""
    sooner = landings[:place]
    # As in first_crowded: behind this minute only those at which one joins can ask for more.
    later = [when for when in joining_minutes(sky) if when > minute and waits_at(sky, landings[place], when)]
    return max([1 + how_many_wait(sky, sooner, when) for when in [minute] + later])
