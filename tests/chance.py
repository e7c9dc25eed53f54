"""Skies, landings and deeds drawn by a chance that is handed in, and so the same ones at each run."""


def a_glider(chance, meadow):
    joins = chance.randint(0, 8)
    first = joins + meadow[1] + chance.choice((0, 0, 1, 4))
    last = first + chance.choice((0, 8, 20, 30, 30))
    ring = chance.choice((0, 0, min(1, meadow[0]), chance.randint(0, meadow[0])))
    return (chance.randrange(2), joins, first, last, chance.randint(0, 20), chance.randint(0, 3), ring)


def a_sky(chance, most=4):
    """A small, crowded sky: about as many can land as can't."""
    gaps = chance.choice((((1, 2), (1, 1)), ((2, 3), (3, 2)), ((3, 1), (2, 3)), ((1, 1), (1, 1))))
    shuts = chance.choice(((), (), ((3, 6),), ((0, 2), (9, 12)), ((5, 6), (7, 8), (14, 16))))
    meadow = (chance.choice((0, 1, 2, 3, 3, 4)), chance.choice((0, 0, 1, 3)), gaps, shuts)
    gliders = tuple(a_glider(chance, meadow) for g in range(chance.randint(0, most)))
    fixed = [g for g, glider in enumerate(gliders) if glider[6] or chance.random() < 0.2]
    chance.shuffle(fixed)
    ahead = chance.choice((None, None, (chance.randrange(2), chance.randint(0, 6))))
    return (meadow, ahead, gliders, tuple(fixed))


def a_free_glider(chance, meadow):
    joins = chance.randint(0, 12)
    first = joins + meadow[1] + chance.choice((0, 0, 2, 5))
    last = first + chance.choice((4, 12, 25, 40, 40))
    return (chance.randrange(2), joins, first, last, chance.randint(0, 25), chance.randint(0, 5), 0)


def a_free_sky(chance, many):
    """A sky of so many gliders, most of them free, with rings enough for some orders."""
    gaps = chance.choice((((1, 3), (2, 1)), ((2, 4), (3, 2)), ((4, 2), (3, 4)), ((2, 2), (2, 2))))
    shuts = chance.choice(((), (), ((6, 9),), ((0, 4), (11, 15)), ((5, 6), (9, 12), (20, 22), (30, 33))))
    meadow = (chance.choice((1, 2, 3, 5, 8)), chance.choice((0, 1, 3)), gaps, shuts)
    gliders = [a_free_glider(chance, meadow) for g in range(many)]
    fixed = chance.sample(range(many), chance.choice((0, 0, 0, min(1, many), min(2, many))))
    for g in fixed:
        gliders[g] = gliders[g][:6] + (chance.choice((0, 1, meadow[0])),)
    ahead = chance.choice((None, None, (chance.randrange(2), chance.randint(0, 9))))
    return (meadow, ahead, tuple(gliders), tuple(fixed))


def an_order(chance, sky):
    free = [g for g in range(len(sky[2])) if g not in sky[3]]
    chance.shuffle(free)
    return sky[3] + tuple(free)


def later_landings(chance, sky, order):
    """Landings in an order, some of them later than the soonest; they may keep the sky or not."""
    (rings, sink, gaps, shuts), ahead, gliders, fixed = sky
    told, before = [], ahead
    for g in order:
        minute = gliders[g][2] + chance.choice((0, 0, 0, 1, 3, 6))
        if before is not None:
            minute = max(minute, before[1] + gaps[before[0]][gliders[g][0]])
        minute += chance.choice((0, 0, 0, 1, 2, 5))
        for begin, end in shuts:
            minute = end if begin <= minute < end else minute
        before = (gliders[g][0], minute)
        told.append((g, minute))
    return told


def a_tower_meadow(chance):
    gaps = chance.choice((((3,),), ((1, 3), (2, 1)), ((2, 4), (3, 2)), ((5, 4), (3, 4))))
    shuts = chance.choice(((), ((3, 6),), ((0, 2), (9, 12)), ((5, 6), (8, 9), (11, 12), (20, 25))))
    return (chance.choice((0, 1, 2, 3, 4, 8, 8)), chance.choice((0, 1, 2, 5)), gaps, shuts)


def a_comer(chance, words, letters):
    """A row for one that comes to a tower told by its words: mostly one that can."""
    joins = words.minute + chance.choice((0, 0, 0, 1, 2, 4, 8, 15, -1))
    last = joins + words.sink() + chance.choice((0, 3, 10, 20, 40, 40, 60, 60, -1))
    due, weight = max(0, joins + chance.randrange(20)), chance.randrange(6)
    return ("comes", chance.choice(letters), chance.randrange(len(words.meadow[2])), joins, last, due, weight)


def a_deed(chance, words, letters):
    """A deed for a tower told by its words, as a tuple of its name and its arguments: mostly one that is done."""
    now, names = words.minute, sorted(words.gliders)
    sort = chance.randrange(24)
    if sort < 10:
        return a_comer(chance, words, letters)
    if sort < 11:
        return ("away", chance.choice(names + [letters[0]]))
    if sort < 13:
        return ("later", chance.choice(names + [letters[0]]), now + chance.randrange(50))
    if sort < 15:
        begin = now + chance.randint(-1, 20)
        return ("shut", begin, begin + chance.randint(0, 6))
    if sort < 16:
        return ("opened",) + chance.choice(words.shuts + [(now, now + 1)])
    if sort < 17:
        return ("aim", chance.choice(("last", "cost", "cost", "none")))
    if sort < 22:
        return ("until", now + chance.choice((0, 1, 1, 1, 1, 2, 3, 7, -1)))
    return ("undo",)
