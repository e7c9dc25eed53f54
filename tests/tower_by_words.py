"""Points 18 to 20 straight from their words: a tower told a second time, apart from the program's own."""

import copy
import itertools

from downrings.best import least_cost, least_last
from downrings.lots import least_stuck
from tests.by_words import (best_by_words, cost_by_words, lands_by_words, last_by_words, least_by_words, lots_by_words,
                            narrowed_by_words, soonest_by_words, whole)

# Up to so many gliders all orders are gone through; beyond that the program's own best is asked, which the tests of
# points 10 and 14 hold against the words.
FEW = 3


def minute_by_words(thing):
    return whole(thing) and 0 <= thing <= 9999


def best_of(sky, aim):
    """The soonest landings of the first best order, None where there are none."""
    if len(sky[2]) <= FEW:
        best = best_by_words(sky, last_by_words if aim == "last" else cost_by_words)
    else:
        best = least_last(sky) if aim == "last" else least_cost(sky)
    return None if best is None else soonest_by_words(sky, best[2])[0]


def first_stuck(sky):
    if len(sky[2]) > FEW:
        return least_stuck(sky)[0]
    return least_by_words([lot for lot in lots_by_words(sky) if not lands_by_words(narrowed_by_words(sky, lot))])[0]


class TowerByWords:
    def __init__(self, meadow):
        self.meadow = meadow
        self.past = []
        self.minute = 0
        self.shuts = list(meadow[3])
        self.goal = "last"
        self.gliders = {}
        self.lands = {}
        self.down = []

    # What it keeps, and what follows from it.

    def sink(self):
        return self.meadow[1]

    def order(self):
        return sorted(self.lands, key=lambda name: self.lands[name])

    def has_joined(self, name):
        return self.gliders[name]["joins"] <= self.minute

    def has_left(self, name):
        return self.lands[name] - self.sink() <= self.minute

    def waits(self, name, minute):
        return self.gliders[name]["joins"] <= minute < self.lands[name] - self.sink()

    def rings(self):
        """Tuples (name, ring) of those that wait now, each later minute looked at."""
        told = []
        for at, name in enumerate(self.order()):
            most = 0
            for minute in range(self.minute, self.lands[name] + 1):
                if self.waits(name, self.minute) and self.waits(name, minute):
                    most = max(most, 1 + sum(self.waits(other, minute) for other in self.order()[:at]))
            if most:
                told.append((name, most))
        return sorted(told, key=lambda pair: pair[1])

    def sky(self, gliders=None, shuts=None):
        """The sky with these gliders, by names, and these stretches; by those that are kept where none are told."""
        gliders = self.gliders if gliders is None else gliders
        shuts = self.shuts if shuts is None else shuts
        held = dict(self.rings())
        seen = []
        for name in sorted(gliders):
            glider = gliders[name]
            kind, joins, last, ring = glider["kind"], glider["joins"], glider["last"], 0
            first = joins + self.sink()
            if name in self.lands and self.has_left(name):
                first = last = self.lands[name]
                joins = first - self.sink()
            elif name in self.lands and self.has_joined(name):
                joins = self.minute
                first = self.minute + self.sink()
                ring = held[name]
            seen.append((kind, joins, first, last, glider["due"], glider["weight"], ring))
        fixed = [name for name in self.order() if name in gliders]
        while fixed and not self.has_joined(fixed[-1]):
            fixed.pop()
        ahead = (self.down[-1][2], self.down[-1][1]) if self.down else None
        meadow = self.meadow[:3] + (tuple(sorted(shuts)),)
        return (meadow, ahead, tuple(seen), tuple(sorted(gliders).index(name) for name in fixed))

    def tells(self):
        """All that a tower is asked."""
        return {
            "now": self.minute, "sky": self.sky(), "names": sorted(self.gliders), "aimed": self.goal,
            "plan": [(name, self.lands[name]) for name in self.order()],
            "landed": [(name, minute) for name, minute, kind in self.down], "rings": self.rings(),
        }

    # Deeds: each gives back None, or the name of the refusal (of NoWay a tuple with the names).

    def do(self, deed, *args):
        refusal = getattr(self, "refuse_" + deed)(*args)
        if refusal is not None:
            return refusal
        if deed == "undo":
            self.__dict__.update(self.past.pop())
            return None
        kept = {key: copy.deepcopy(value) for key, value in self.__dict__.items() if key != "past"}
        refusal = getattr(self, "do_" + deed)(*args)
        if refusal is None:
            self.past.append(kept)
        return refusal

    def anew(self, gliders, shuts, goal):
        sky = self.sky(gliders, shuts)
        names = sorted(gliders)
        landings = best_of(sky, goal)
        if landings is None:
            return ("NoWay", tuple(names[g] for g in first_stuck(sky)))
        self.gliders, self.shuts, self.goal = gliders, shuts, goal
        self.lands = {names[g]: minute for g, minute in landings}
        return None

    def refuse_comes(self, name, kind, joins, last, due, weight):
        if not isinstance(name, str) or not name or len(name) > 8 or name.strip("abcdefghijklmnopqrstuvwxyz"):
            return "NoName"
        if any(not "a" <= sign <= "z" for sign in name) or name in self.gliders:
            return "NoName"
        if not whole(kind) or kind not in range(len(self.meadow[2])):
            return "NoGlider"
        if not all(map(minute_by_words, (joins, last, due))) or joins < self.minute:
            return "NoGlider"
        if not whole(weight) or not 0 <= weight <= 99 or last < joins + self.sink():
            return "NoGlider"
        return "TooMany" if len(self.gliders) >= 7 else None

    def do_comes(self, name, kind, joins, last, due, weight):
        comer = {"kind": kind, "joins": joins, "last": last, "due": due, "weight": weight}
        return self.anew({**self.gliders, name: comer}, self.shuts, self.goal)

    def refuse_away(self, name):
        if not any(isinstance(name, str) and name == other for other in self.gliders):
            return "NoName"
        return "Bound" if self.has_left(name) else None

    def do_away(self, name):
        return self.anew({other: self.gliders[other] for other in self.gliders if other != name}, self.shuts, self.goal)

    def refuse_later(self, name, last):
        refusal = self.refuse_away(name)
        if refusal is not None:
            return refusal
        first = self.sky()[2][sorted(self.gliders).index(name)][2]
        return None if minute_by_words(last) and last >= first else "NoMinute"

    def do_later(self, name, last):
        return self.anew({**self.gliders, name: {**self.gliders[name], "last": last}}, self.shuts, self.goal)

    def refuse_shut(self, begin, end):
        if not minute_by_words(begin) or not minute_by_words(end) or begin < self.minute or begin >= end:
            return "NoMinute"
        # With its end a stretch has a minute in common with those that it meets and with those that it touches.
        for other in self.shuts:
            if set(range(begin, end + 1)) & set(range(other[0], other[1] + 1)):
                return "NoMinute"
        return "TooMany" if len(self.shuts) >= 4 else None

    def do_shut(self, begin, end):
        return self.anew(self.gliders, self.shuts + [(begin, end)], self.goal)

    def refuse_opened(self, begin, end):
        if not whole(begin) or not whole(end) or (begin, end) not in self.shuts or begin < self.minute:
            return "NoMinute"
        return None

    def do_opened(self, begin, end):
        return self.anew(self.gliders, [other for other in self.shuts if other != (begin, end)], self.goal)

    def refuse_aim(self, word):
        return None if isinstance(word, str) and word in ("last", "cost") else "NoAim"

    def do_aim(self, word):
        return self.anew(self.gliders, self.shuts, word)

    def refuse_until(self, minute):
        return None if minute_by_words(minute) and minute >= self.minute else "NoMinute"

    def do_until(self, minute):
        # Minute by minute: who lands at one, that at which it begins among them, has landed then.
        for now in itertools.chain([self.minute], range(self.minute + 1, minute + 1)):
            self.minute = now
            for name in self.order():
                if self.lands[name] == now:
                    self.down.append((name, now, self.gliders[name]["kind"]))
                    del self.lands[name], self.gliders[name]
            self.shuts = [stretch for stretch in self.shuts if stretch[1] != now]
        return None

    def refuse_undo(self):
        return None if self.past else "NoDeed"
