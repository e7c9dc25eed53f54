"""Points 6, 7 and 9 to 16 straight from their words, minute by minute: slow, and apart from the program."""

import itertools
import math


def waiting(sky, landings, minute):
    """Those that wait at a minute, in the order of their landings."""
    (rings, sink, gaps, shuts), ahead, gliders, fixed = sky
    return [g for g, lands in landings if gliders[g][1] <= minute and minute < lands - sink]


def needs(sky, landings, g, minute):
    """The ring that g needs at a minute at which it waits."""
    order = [h for h, lands in landings]
    sooner = order[:order.index(g)]
    most = 0
    for later in range(minute, dict(landings)[g] + 1):
        there = waiting(sky, landings, later)
        if g in there:
            most = max(most, 1 + sum(h in sooner for h in there))
    return most


def horizon(landings):
    return range(max([minute for g, minute in landings], default=0) + 1)


def amiss_by_words(sky, landings):
    (rings, sink, gaps, shuts), ahead, gliders, fixed = sky
    shut = [minute for begin, end in shuts for minute in range(begin, end)]
    due = list(fixed)
    landed = []
    before = ahead
    for g, minute in landings:
        if g not in range(len(gliders)):
            return ("none", g)
        if g in landed:
            return ("twice", g)
        if due and due.pop(0) != g:
            return ("order", g)
        kind, joins, first, last = gliders[g][:4]
        if minute < first:
            return ("soon", g)
        if minute > last:
            return ("late", g)
        if minute in shut:
            return ("shut", g)
        if before is not None and minute < before[1] + gaps[before[0]][kind]:
            return ("gap", g)
        landed.append(g)
        before = (kind, minute)
    for g in range(len(gliders)):
        if g not in landed:
            return ("lacks", g)
    for minute in horizon(landings):
        if len(waiting(sky, landings, minute)) > rings:
            return ("rings", minute)
    for g, lands in landings:
        if gliders[g][6] != 0:
            for minute in horizon(landings):
                if g in waiting(sky, landings, minute) and needs(sky, landings, g, minute) > gliders[g][6]:
                    return ("ring", g)
    return None


def keeps_by_words(sky, landings):
    (rings, sink, gaps, shuts), ahead, gliders, fixed = sky
    order = [g for g, minute in landings]
    minutes = [minute for g, minute in landings]
    if sorted(order) != list(range(len(gliders))) or sorted(minutes) != minutes:
        return False
    if tuple(order[:len(fixed)]) != fixed:
        return False
    for at, (g, minute) in enumerate(landings):
        kind, joins, first, last = gliders[g][:4]
        if not first <= minute <= last or any(begin <= minute < end for begin, end in shuts):
            return False
        before = ahead if at == 0 else (gliders[order[at - 1]][0], minutes[at - 1])
        if before is not None and minute < before[1] + gaps[before[0]][kind]:
            return False
    for minute in horizon(landings):
        there = waiting(sky, landings, minute)
        if len(there) > rings:
            return False
        if any(0 < gliders[g][6] < needs(sky, landings, g, minute) for g in there):
            return False
    return True


# Point 9: one order.

def lands_at(sky, before, g):
    """The soonest minute of g behind the landing before, each minute from its first one on tried."""
    (rings, sink, gaps, shuts), ahead, gliders, fixed = sky
    minute = gliders[g][2]
    while any(begin <= minute < end for begin, end in shuts) or (
            before is not None and minute < before[1] + gaps[before[0]][gliders[g][0]]):
        minute += 1
    return minute


def leaves_too_late(sky, place, minute):
    (rings, sink, gaps, shuts), ahead, gliders, fixed = sky
    joins = sorted(glider[1] for glider in gliders)
    return rings + place < len(joins) and minute - sink > joins[rings + place]


def causes_of(sky, landings):
    """Why the last one of these landings is stuck: all the causes that hold, as a list of words."""
    g, minute = landings[-1]
    kind, joins, first, last, due, weight, ring = sky[2][g]
    causes = []
    if minute > last:
        causes.append("last")
    if leaves_too_late(sky, len(landings) - 1, minute):
        causes.append("leaving")
    if ring != 0 and needs(sky, landings, g, joins) > ring:
        causes.append("ring")
    return causes


def soonest_by_words(sky, order):
    """The soonest landings of these ahead of the first one that is stuck, and its causes, none where all land."""
    landings, before = [], sky[1]
    for g in order:
        before = (sky[2][g][0], lands_at(sky, before, g))
        landings.append((g, before[1]))
        causes = causes_of(sky, landings)
        if causes:
            return landings[:-1], causes
    return landings, []


# Point 10: all orders.

def all_orders(sky):
    """All orders of a sky, the first as tuples compare first."""
    free = [g for g in range(len(sky[2])) if g not in sky[3]]
    return [sky[3] + behind for behind in itertools.permutations(free)]


def last_by_words(sky, landings):
    return max([minute for g, minute in landings], default=0)


def cost_by_words(sky, landings):
    return sum(sky[2][g][5] * (minute - sky[2][g][4]) for g, minute in landings if minute > sky[2][g][4])


def best_by_words(sky, number_of):
    best = None
    for order in all_orders(sky):
        landings, causes = soonest_by_words(sky, order)
        if not causes and (best is None or number_of(sky, landings) < best[1]):
            best = ("order", number_of(sky, landings), order)
    return best


def lands_by_words(sky):
    return any(not soonest_by_words(sky, order)[1] for order in all_orders(sky))


def all_landings(sky):
    """All landings that keep a sky, each minute of each glider gone through: for small skies only."""
    found = []
    for order in all_orders(sky):
        for minutes in itertools.product(*(range(sky[2][g][2], sky[2][g][3] + 1) for g in order)):
            landings = list(zip(order, minutes))
            if all(a < b for a, b in zip(minutes, minutes[1:])) and keeps_by_words(sky, landings):
                found.append(landings)
    return found


# Points 11 and 12: tables.

def whole(thing):
    return isinstance(thing, int) and thing is not True and thing is not False


def is_table_by_words(sky, thing):
    if not isinstance(thing, tuple):
        return False
    free = [g for g in range(len(sky[2])) if g not in sky[3]]
    for row in thing:
        if not isinstance(row, tuple) or len(row) != 3:
            return False
        lot, last, corners = row
        if not isinstance(lot, tuple) or not lot or not all(whole(g) and g in free for g in lot):
            return False
        if any(a >= b for a, b in zip(lot, lot[1:])) or not whole(last) or last not in lot:
            return False
        if not isinstance(corners, tuple):
            return False
        for corner in corners:
            if not isinstance(corner, tuple) or len(corner) != 2 or not all(map(whole, corner)) or corner[1] < 0:
                return False
    return True


def start_by_words(sky):
    """The landing ahead of the free ones (None where there is none), the minute and the cost; None for no start."""
    landings, causes = soonest_by_words(sky, sky[3])
    if causes:
        return None
    ahead = (sky[2][landings[-1][0]][0], landings[-1][1]) if landings else sky[1]
    return ahead, last_by_words(sky, landings), cost_by_words(sky, landings)


def reach(sky, before, cost, g, place):
    minute = lands_at(sky, before, g)
    if minute > sky[2][g][3] or leaves_too_late(sky, place, minute):
        return None
    return minute, cost + cost_by_words(sky, [(g, minute)])


def is_right_by_words(sky, ahead, row):
    """Whether a row is right behind the rows ahead."""
    lot, last, corners = row
    if any(other[:2] == (lot, last) for other in ahead):
        return False
    place = len(sky[3]) + len(lot) - 1
    reached = []
    if len(lot) == 1:
        start = start_by_words(sky)
        if start is not None:
            reached.append(reach(sky, start[0], start[2], last, place))
    sooner = tuple(g for g in lot if g != last)
    for h in sooner:
        rows = [other for other in ahead if other[:2] == (sooner, h)]
        if not rows:
            return False
        for minute, cost in rows[0][2]:
            reached.append(reach(sky, (sky[2][h][0], minute), cost, last, place))
    for point in reached:
        if point is not None and not any(minute <= point[0] and cost <= point[1] for minute, cost in corners):
            return False
    return True


def shows_by_words(sky, thing):
    if not is_table_by_words(sky, thing):
        return None
    if not all(is_right_by_words(sky, thing[:at], row) for at, row in enumerate(thing)):
        return None
    free = tuple(g for g in range(len(sky[2])) if g not in sky[3])
    if not free:
        start = start_by_words(sky)
        return ("none",) if start is None else ("least", start[1], start[2])
    corners = []
    for last in free:
        rows = [row for row in thing if row[:2] == (free, last)]
        if not rows:
            return None
        corners += rows[0][2]
    if not corners:
        return ("none",)
    return ("least", min(minute for minute, cost in corners), min(cost for minute, cost in corners))


# Points 13 to 15: lots.

def narrowed_by_words(sky, lot):
    meadow, ahead, gliders, fixed = sky
    anew = {g: at for at, g in enumerate(lot)}
    return (meadow, ahead, tuple(gliders[g] for g in lot), tuple(anew[g] for g in fixed if g in anew))


def lots_by_words(sky):
    """All lots, shorter ones first, those of one length rising."""
    return [lot for many in range(len(sky[2]) + 1) for lot in itertools.combinations(range(len(sky[2])), many)]


def least_by_words(lots):
    """Those of the lots in which no other one of them is."""
    return [lot for lot in lots if not any(set(other) < set(lot) for other in lots)]


def later_by_words(sky, minutes):
    """The sky in which each last minute is so many minutes later, be it behind 9999."""
    later = tuple(glider[:3] + (glider[3] + minutes,) + glider[4:] for glider in sky[2])
    return (sky[0], sky[1], later, sky[3])


# Point 16: holdings.

def waits_by_words(sky, landings, g):
    """The minutes at which g waits, rising."""
    return [minute for minute in horizon(landings) if g in waiting(sky, landings, minute)]


def rings_of(steps, minutes):
    """The ring at each of these minutes by tuples (minute, ring), None ahead of the first one."""
    return {minute: ([None] + [ring for when, ring in steps if when <= minute])[-1] for minute in minutes}


def is_holding_by_words(sky, landings, thing):
    (rings, sink, gaps, shuts), ahead, gliders, fixed = sky
    if not isinstance(thing, list) or len(thing) != len(gliders):
        return False
    for g, steps in enumerate(thing):
        if not isinstance(steps, list):
            return False
        for step in steps:
            if not isinstance(step, tuple) or len(step) != 2 or not all(map(whole, step)):
                return False
        there = waits_by_words(sky, landings, g)
        if not there and steps or there and (not steps or steps[0][0] != there[0]):
            return False
        if any(a[0] >= b[0] or a[1] <= b[1] for a, b in zip(steps, steps[1:])):
            return False
        for minute, ring in steps:
            if minute >= dict(landings)[g] - sink or ring < 1 or ring > rings or 0 < gliders[g][6] < ring:
                return False
        if there and rings_of(steps, there)[there[-1]] != 1:
            return False
    order = [g for g, lands in landings]
    for minute in horizon(landings):
        there = [rings_of(thing[g], [minute])[minute] for g in order if g in waiting(sky, landings, minute)]
        if any(a >= b for a, b in zip(there, there[1:])):
            return False
    return True


def all_steps(minutes, joins, leaves, most):
    """All lists of tuples (minute, ring) from joining on, the rings falling to 1, with steps at these minutes only."""
    if joins >= leaves:
        return [[]]
    found = []
    for many in range(1, most + 1):
        for rings in itertools.combinations(range(2, most + 1), many - 1):
            for when in itertools.combinations([m for m in minutes if joins < m < leaves], many - 1):
                found.append(list(zip((joins,) + when, rings[::-1] + (1,))))
    return found


def ways_down(sky, landings):
    """For each glider all its ways down the rings, each by itself."""
    minutes, lands = list(horizon(landings)), dict(landings)
    return [all_steps(minutes, glider[1], lands[g] - sky[0][1], glider[6] or sky[0][0])
            for g, glider in enumerate(sky[2])]


def all_holdings(sky, landings, most):
    """All right holdings, the ways of all gliders gone through together; None where these are more than so many."""
    ways = ways_down(sky, landings)
    if math.prod(len(way) for way in ways) > most:
        return None
    return [list(holding) for holding in itertools.product(*ways) if is_holding_by_words(sky, landings, list(holding))]
