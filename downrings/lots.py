"""Lots: which gliders can't all land, which are to be sent away, how much longer all would need (points 13 to 15)."""

from downrings.best import best_order
from downrings.errors import NoLot
from downrings.meadows import MOST_GAP
from downrings.shapes import LAST_MINUTE, are_rising, lots_of
from downrings.skies import MOST_GLIDERS, check_sky


def narrowed(sky, lot):
    """The sky with the gliders of this lot alone, numbered anew."""
    check_lot(sky, lot)
    return narrowed_to(sky, lot)


def can_land(sky, lot):
    """True or False: whether landings keep the sky narrowed to this lot."""
    check_lot(sky, lot)
    return lands(narrowed_to(sky, lot))


def least_stuck(sky):
    """The least lots that can't land, shorter ones first, those of one length rising."""
    check_sky(sky)
    found = []
    for lot in all_lots(sky):
        if not holds_one(lot, found) and not lands(narrowed_to(sky, lot)):
            found.append(lot)
    return found


def least_sendings(sky):
    """The least lots without which all others can land, shorter ones first, those of one length rising."""
    stuck = least_stuck(sky)
    found = []
    for lot in all_lots(sky):
        # A lot can land just where no least stuck lot is in it.
        if not holds_one(lot, found) and not holds_one(all_but(sky, lot), stuck):
            found.append(lot)
    return found


def longer(sky):
    """The least number of minutes by which all last ones must be later, None where no number is enough."""
    check_sky(sky)
    best = best_order(never_too_late(sky), "most")
    return None if best is None else best[0]


def never_too_late(sky):
    """The sky without bounding last minutes, in which a glider's cost is the minutes by which it would miss its own."""
    meadow, ahead, gliders, fixed = sky
    # A soonest landing is at a first minute, at the end of a shut stretch or a gap behind the one ahead: none is later.
    latest = LAST_MINUTE + MOST_GLIDERS * MOST_GAP
    late = [(kind, joins, first, latest, last, 1, ring) for kind, joins, first, last, due, weight, ring in gliders]
    return (meadow, ahead, tuple(late), fixed)


def check_lot(sky, lot):
    check_sky(sky)
    if not are_rising(lot, len(sky[2])):
        raise NoLot("this is no lot of the sky's gliders")


def narrowed_to(sky, lot):
    meadow, ahead, gliders, fixed = sky
    kept = tuple([gliders[number] for number in lot])
    return (meadow, ahead, kept, tuple([lot.index(number) for number in fixed if number in lot]))


def lands(sky):
    return best_order(sky, "last") is not None


def all_lots(sky):
    """All lots of the sky, shorter ones first, those of one length rising."""
    return sorted(lots_of(list(range(len(sky[2])))), key=lambda lot: (len(lot), lot))


def all_but(sky, lot):
    return tuple([number for number in range(len(sky[2])) if number not in lot])


def holds_one(lot, others):
    """Whether one of the other lots is in this one."""
    return any([all([number in lot for number in other]) for other in others])
