"""Things that the tests hand in, and ways to spoil them."""

BIG = 10 ** 40 - 1


def deep_thing(make, depth=60):
    thing = 1
    for step in range(depth):
        thing = make(thing)
    return thing


# None of these is a whole number, and none a tuple that may stand anywhere in a meadow or a sky
# (but for None, which may stand for the landing ahead).
ODD = (
    None, True, False, "", "1", "meadow", [], [0], [1, 1], {}, {0: 0}, {"a": 1}, (None,), (True, False), ("0",),
    ((), ()), (1, 2, 3, 4, 5), [(0, 0)], {(): ()}, deep_thing(lambda inner: [inner]),
    deep_thing(lambda inner: (inner,)), deep_thing(lambda inner: {0: inner}),
)

# As large as "of anything" goes.
WIDE = ([0] * 19999, (0,) * 19999, [(0, 0)] * 6666, ((0, 0),) * 6666, {k: 0 for k in range(9999)}, "a" * 2000)

ANYTHING = ODD + WIDE + (0, 1, -1, BIG, -BIG, (), (0,), (0, 0), (0, 0, 0, 0))


def part_at(thing, path):
    for at in path:
        thing = thing[at]
    return thing


def replaced(thing, path, new):
    """The nested tuple with the part at this path put otherwise."""
    if not path:
        return new
    at = path[0]
    return thing[:at] + (replaced(thing[at], path[1:], new),) + thing[at + 1:]


def all_paths(thing, path=()):
    """The paths of all parts of a nested tuple, itself among them."""
    found = [path]
    if isinstance(thing, tuple):
        for at, part in enumerate(thing):
            found += all_paths(part, path + (at,))
    return found


def number_paths(thing):
    return [path for path in all_paths(thing) if isinstance(part_at(thing, path), int)]


def tuple_paths(thing):
    return [path for path in all_paths(thing) if isinstance(part_at(thing, path), tuple)]


def make_meadow(rings=3, sink=2, gaps=((3,),), shuts=()):
    return (rings, sink, gaps, shuts)


def make_glider(kind=0, joins=0, first=10, last=100, due=20, weight=1, ring=0):
    return (kind, joins, first, last, due, weight, ring)


def make_sky(gliders=(), fixed=(), ahead=None, meadow=make_meadow()):
    return (meadow, ahead, tuple(gliders), fixed)
