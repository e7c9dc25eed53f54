"""Points 6 and 7 told minute by minute, straight from their words: slow, and apart from the program."""


def waiting(sky, landings, minute):
    """Those that wait at a minute, in the order of their landings."""
    (rings, sink, gaps, shuts), ahead, gliders, fixed = sky
    return [g for g, lands in landings if gliders[g][1] <= minute and minute < lands - sink]


def needs(sky, landings, g, minute):
    """The ring that g needs at a minute at which it waits."""
    order = [h for h, lands in landings]
    sooner = order[:order.index(g)]
    most = 0
    for later in range(minute, dict(landings)[g] + 1):
        there = waiting(sky, landings, later)
        if g in there:
            most = max(most, 1 + sum(h in sooner for h in there))
    return most


def horizon(landings):
    return range(max([minute for g, minute in landings], default=0) + 1)


def amiss_by_words(sky, landings):
    (rings, sink, gaps, shuts), ahead, gliders, fixed = sky
    shut = [minute for begin, end in shuts for minute in range(begin, end)]
    due = list(fixed)
    landed = []
    before = ahead
    for g, minute in landings:
        if g not in range(len(gliders)):
            return ("none", g)
        if g in landed:
            return ("twice", g)
        if due and due.pop(0) != g:
            return ("order", g)
        kind, joins, first, last = gliders[g][:4]
        if minute < first:
            return ("soon", g)
        if minute > last:
            return ("late", g)
        if minute in shut:
            return ("shut", g)
        if before is not None and minute < before[1] + gaps[before[0]][kind]:
            return ("gap", g)
        landed.append(g)
        before = (kind, minute)
    for g in range(len(gliders)):
        if g not in landed:
            return ("lacks", g)
    for minute in horizon(landings):
        if len(waiting(sky, landings, minute)) > rings:
            return ("rings", minute)
    for g, lands in landings:
        if gliders[g][6] != 0:
            for minute in horizon(landings):
                if g in waiting(sky, landings, minute) and needs(sky, landings, g, minute) > gliders[g][6]:
                    return ("ring", g)
    return None


def keeps_by_words(sky, landings):
    (rings, sink, gaps, shuts), ahead, gliders, fixed = sky
    order = [g for g, minute in landings]
    minutes = [minute for g, minute in landings]
    if sorted(order) != list(range(len(gliders))) or sorted(minutes) != minutes:
        return False
    if tuple(order[:len(fixed)]) != fixed:
        return False
    for at, (g, minute) in enumerate(landings):
        kind, joins, first, last = gliders[g][:4]
        if not first <= minute <= last or any(begin <= minute < end for begin, end in shuts):
            return False
        before = ahead if at == 0 else (gliders[order[at - 1]][0], minutes[at - 1])
        if before is not None and minute < before[1] + gaps[before[0]][kind]:
            return False
    for minute in horizon(landings):
        there = waiting(sky, landings, minute)
        if len(there) > rings:
            return False
        if any(0 < gliders[g][6] < needs(sky, landings, g, minute) for g in there):
            return False
    return True
