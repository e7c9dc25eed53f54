"""The tower: it lets time go by and keeps what is bound while gliders come and go (points 18 to 20).

A state of a tower is a dict. It and what is in it is never changed: each deed makes a new one, and undoing takes the
one ahead of it again. "now" is the minute; "meadow" the meadow with the shut stretches that are kept; "aim" the aim;
"gliders" a dict of tuples (kind, joins, last, due, weight) by the names of those that haven't landed; "plan" a list of
tuples (name, minute) of these, by minutes; "landed" a list of tuples (name, kind, minute), by minutes.
"""

from downrings.best import best_order
from downrings.errors import Bound, NoAim, NoDeed, NoGlider, NoMinute, NoName, NoWay, TooMany
from downrings.lots import least_stuck
from downrings.meadows import MOST_SHUTS, check_meadow, is_stretch
from downrings.orders import soonest_landings
from downrings.rings import rings_at
from downrings.shapes import is_minute
from downrings.skies import MOST_GLIDERS, is_glider

LETTERS = "abcdefghijklmnopqrstuvwxyz"
MOST_LETTERS = 8
AIMS = ("last", "cost")


class Tower:
    """A tower for a meadow, from minute 0 on."""

    def __init__(self, meadow):
        check_meadow(meadow)
        self.state = {"now": 0, "meadow": meadow, "aim": "last", "gliders": {}, "plan": [], "landed": []}
        self.earlier = []

    def comes(self, name, kind, joins, last, due, weight):
        """A glider comes."""
        gliders = self.state["gliders"]
        if not is_name(name) or name in gliders:
            raise NoName("this is no name, or that of one that hasn't landed")
        glider = (kind, joins, last, due, weight)
        if not can_come(self.state, glider):
            raise NoGlider("no glider can come like this")
        if len(gliders) == MOST_GLIDERS:
            raise TooMany("there are as many gliders as there may be")
        self.plan_anew(changed(self.state, "gliders", changed(gliders, name, glider)))

    def away(self, name):
        """A glider is sent away."""
        check_not_bound(self.state, name)
        gliders = self.state["gliders"]
        left = {other: gliders[other] for other in gliders if other != name}
        self.plan_anew(changed(self.state, "gliders", left))

    def later(self, name, last):
        """The last minute of a glider is turned."""
        check_not_bound(self.state, name)
        gliders = self.state["gliders"]
        kind, joins, before, due, weight = gliders[name]
        first = max(joins, self.state["now"]) + sink_of(self.state)
        if not is_minute(last) or last < first:
            raise NoMinute("this is no minute, or one ahead of its first one")
        self.plan_anew(changed(self.state, "gliders", changed(gliders, name, (kind, joins, last, due, weight))))

    def shut(self, begin, end):
        """A stretch is shut."""
        kept = self.state["meadow"][3]
        if not is_stretch((begin, end)) or begin < self.state["now"]:
            raise NoMinute("this is no stretch, or one that begins ahead of now")
        if not all([end < other[0] or other[1] < begin for other in kept]):
            raise NoMinute("this stretch meets or touches one that is shut")
        if len(kept) == MOST_SHUTS:
            raise TooMany("as many stretches are shut as may be")
        shuts = sorted(kept + ((begin, end),))
        self.plan_anew(changed(self.state, "meadow", meadow_with(self.state, shuts)))

    def opened(self, begin, end):
        """A stretch that is shut is opened."""
        kept = self.state["meadow"][3]
        if not is_stretch((begin, end)) or (begin, end) not in kept or begin < self.state["now"]:
            raise NoMinute("this is not just a stretch that is shut, or it begins ahead of now")
        shuts = [other for other in kept if other != (begin, end)]
        self.plan_anew(changed(self.state, "meadow", meadow_with(self.state, shuts)))

    def aim(self, word):
        """The aim is turned."""
        if word not in AIMS:
            raise NoAim("this is no aim")
        self.plan_anew(changed(self.state, "aim", word))

    def until(self, minute):
        """Time goes on until a minute."""
        if not is_minute(minute) or minute < self.state["now"]:
            raise NoMinute("this is no minute, or one ahead of now")
        self.turn_to(gone_on(self.state, minute))

    def undo(self):
        """The last deed that is left is undone."""
        if not self.earlier:
            raise NoDeed("no deed is left")
        self.state = self.earlier.pop()

    def now(self):
        """The minute."""
        return self.state["now"]

    def sky(self):
        """The sky at this minute."""
        return sky_of(self.state, self.state)

    def names(self):
        """The names of the sky's gliders, in its order."""
        return names_of(self.state)

    def plan(self):
        """Tuples (name, minute) of those that haven't landed, by minutes."""
        return list(self.state["plan"])

    def landed(self):
        """Tuples (name, minute) of those that have landed, by minutes."""
        return [(name, minute) for name, kind, minute in self.state["landed"]]

    def rings(self):
        """Tuples (name, ring) of those that wait now, the lowest ring first."""
        return rings_now(self.state)

    def aimed(self):
        """The aim."""
        return self.state["aim"]

    def plan_anew(self, state):
        """Does a deed by which all but the plan is as in this state, or refuses it."""
        sky = sky_of(self.state, state)
        self.turn_to(changed(state, "plan", plan_of(sky, names_of(state), state["aim"])))

    def turn_to(self, state):
        self.earlier.append(self.state)
        self.state = state


def is_name(thing):
    if not isinstance(thing, str) or not 1 <= len(thing) <= MOST_LETTERS:
        return False
    return all([sign in LETTERS for sign in thing])


def can_come(state, glider):
    kind, joins, last, due, weight = glider
    if not is_minute(joins) or joins < state["now"]:
        return False
    return is_glider(state["meadow"], joining_later(state, glider))


def check_not_bound(state, name):
    if not is_name(name) or name not in state["gliders"]:
        raise NoName("this is the name of none that hasn't landed")
    if dict(state["plan"])[name] - sink_of(state) <= state["now"]:
        raise Bound("this glider has left the rings")


def changed(parts, key, value):
    """A new dict that has this value by this key, and else what the other one has."""
    new = dict(parts)
    new[key] = value
    return new


def gone_on(state, minute):
    """The state behind time that went on until this minute, the plan staying but for those that have landed."""
    gliders, shuts = state["gliders"], state["meadow"][3]
    landing = [(name, gliders[name][0], lands) for name, lands in state["plan"] if lands <= minute]
    plan = [(name, lands) for name, lands in state["plan"] if lands > minute]
    return {
        "now": minute,
        "meadow": meadow_with(state, [stretch for stretch in shuts if stretch[1] > minute]),
        "aim": state["aim"],
        "gliders": {name: gliders[name] for name, lands in plan},
        "plan": plan,
        "landed": state["landed"] + landing,
    }


def meadow_with(state, shuts):
    return state["meadow"][:3] + (tuple(shuts),)


def sink_of(state):
    return state["meadow"][1]


def names_of(state):
    return sorted(state["gliders"])


def sky_of(stood, state):
    """The sky of a state, rings and fixed ones by the plan of the state that stood, which may be the same one."""
    names = names_of(state)
    rings = dict(rings_now(stood))
    minutes = dict(stood["plan"])
    gliders = [glider_now(state, name, minutes.get(name), rings.get(name)) for name in names]
    fixed = [names.index(name) for name in fixed_names(stood, state)]
    return (state["meadow"], ahead_of(state), tuple(gliders), tuple(fixed))


def ahead_of(state):
    """Kind and minute of the last landing so far, None where there is none."""
    return state["landed"][-1][1:] if state["landed"] else None


def glider_now(state, name, lands, ring):
    """The glider as it stands in the sky, by its plan's minute (None where it only comes now) and the ring it holds."""
    now, sink, glider = state["now"], sink_of(state), state["gliders"][name]
    kind, joins, last, due, weight = glider
    if lands is None or joins > now:
        return joining_later(state, glider)
    if lands - sink <= now:
        return (kind, lands - sink, lands, lands, due, weight, 0)
    return (kind, now, now + sink, last, due, weight, ring)


def joining_later(state, glider):
    kind, joins, last, due, weight = glider
    return (kind, joins, joins + sink_of(state), last, due, weight, 0)


def fixed_names(stood, state):
    """In the order of the plan that stood all that are left, up to the last one of them that has joined."""
    order = [name for name, minute in stood["plan"] if name in state["gliders"]]
    joined = [place for place, name in enumerate(order) if state["gliders"][name][1] <= state["now"]]
    return order[:joined[-1] + 1] if joined else []


def rings_now(state):
    """Tuples (name, ring) of those that wait now by the plan, the lowest ring first."""
    names = [name for name, minute in state["plan"]]
    # Who waits and on which ring goes by joining and leaving alone, so any sky that has these will do.
    gliders = [joining_later(state, state["gliders"][name]) for name in names]
    sky = (state["meadow"], None, tuple(gliders), ())
    landings = [(place, minute) for place, (name, minute) in enumerate(state["plan"])]
    return [(names[place], ring) for place, ring in rings_at(sky, landings, state["now"])]


def plan_of(sky, names, aim):
    """The soonest landings of the first best order by this aim, by names."""
    best = best_order(sky, aim)
    if best is None:
        raise NoWay(tuple([names[number] for number in least_stuck(sky)[0]]))
    return [(names[number], minute) for number, minute in soonest_landings(sky, best[1])]
