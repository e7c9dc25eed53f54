"""Rings: who holds which one while it waits (point 16)."""

from downrings.landings import check_keeps, is_pair, ring_needed, waits_at


def held(sky, landings):
    """A list of tuples (minute, ring) for each glider, by numbers: at each minute the lowest ring that is right."""
    check_keeps(sky, landings)
    places = {landing[0]: place for place, landing in enumerate(landings)}
    return [steps_down(sky, landings, places[number]) for number in range(len(sky[2]))]


def is_holding(sky, landings, thing):
    """True or False, of anything: whether it is a right holding of these landings."""
    check_keeps(sky, landings)
    if not isinstance(thing, list) or len(thing) != len(sky[2]):
        return False
    if not all([are_steps(sky, landing, thing[landing[0]]) for landing in landings]):
        return False
    pairs = [(sooner, later) for at, later in enumerate(landings) for sooner in landings[:at]]
    return all([stays_below(sky, thing, sooner, later) for sooner, later in pairs])


def waiting(sky, landings, minute):
    """The gliders that wait at this whole number, by their rings, the lowest first."""
    check_keeps(sky, landings)
    return [number for number, ring in rings_at(sky, landings, minute)]


def rings_at(sky, landings, minute):
    """Tuples (glider, ring) of those that wait at a minute, the lowest ring first."""
    # Of two that wait the one that lands sooner is always the lower one.
    there = [place for place, landing in enumerate(landings) if waits_at(sky, landing, minute)]
    return [(landings[place][0], ring_needed(sky, landings, place, minute)) for place in there]


def steps_down(sky, landings, place):
    """The rings of the glider landing at this place, none where it doesn't wait."""
    steps = []
    for minute in minutes_of_steps(sky, landings, place):
        ring = ring_needed(sky, landings, place, minute)
        if not steps or ring < steps[-1][1]:
            steps.append((minute, ring))
    return steps


def minutes_of_steps(sky, landings, place):
    """The minutes, as time goes by, from which on the glider landing at this place may need another ring."""
    joins = sky[2][landings[place][0]][1]
    # It needs less only from where one leaves that lands sooner.
    leavings = [minute - sky[0][1] for number, minute in landings[:place]]
    return [minute for minute in [joins] + leavings if waits_at(sky, landings[place], minute)]


def are_steps(sky, landing, thing):
    """Whether it is right for this glider by itself, whatever rings the others hold."""
    if not isinstance(thing, list) or not all([is_pair(step) for step in thing]):
        return False
    joins = sky[2][landing[0]][1]
    if not waits_at(sky, landing, joins):
        return not thing
    if not thing or thing[0][0] != joins or not waits_at(sky, landing, thing[-1][0]):
        return False
    # As the rings fall and the last one is 1, all of them are from 1 on.
    if thing[0][1] > highest_ring(sky, landing[0]) or thing[-1][1] != 1:
        return False
    return all([goes_down(thing[at - 1], thing[at]) for at in range(1, len(thing))])


def goes_down(step, behind):
    return step[0] < behind[0] and step[1] > behind[1]


def highest_ring(sky, number):
    """The highest ring that this glider may hold."""
    ring = sky[2][number][6]
    return ring if ring > 0 else sky[0][0]


def stays_below(sky, holding, sooner, later):
    """Whether at each minute at which both wait the one that lands sooner holds the lower ring."""
    below, above = holding[sooner[0]], holding[later[0]]
    # Between these minutes neither changes its ring, and both wait together from one of them on.
    minutes = [minute for minute, ring in below + above]
    both = [minute for minute in minutes if waits_at(sky, sooner, minute) and waits_at(sky, later, minute)]
    return all([ring_held(below, minute) < ring_held(above, minute) for minute in both])


def ring_held(steps, minute):
    return [ring for when, ring in steps if when <= minute][-1]
