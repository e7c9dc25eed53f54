"""The desk: it is told rows of words and has a tower do them (point 21)."""

from downrings.errors import NoMeadow, NoRow
from downrings.shapes import number_in
from downrings.tower import Tower

# What stands behind the first word of each row.
ROWS = {
    "meadow": ("number", "number", "gaps"),
    "comes": ("word", "number", "number", "number", "number", "number"),
    "away": ("word",),
    "later": ("word", "number"),
    "shut": ("number", "number"),
    "open": ("number", "number"),
    "aim": ("word",),
    "until": ("number",),
    "undo": (),
    "now": (),
    "plan": (),
    "landed": (),
    "rings": (),
}


def parts_of(row):
    """The first word of a row, and a list of what the words behind it stand for."""
    if not isinstance(row, str):
        raise NoRow("this is no text")
    first, *words = row.split(" ")
    if first not in ROWS or len(words) != len(ROWS[first]):
        raise NoRow("there is no row of this word and so many behind it")
    values = [value_in(word, sort) for word, sort in zip(words, ROWS[first])]
    if None in values:
        raise NoRow("a word of this row is none that may stand there")
    return (first, values)


def value_in(word, sort):
    """What a word stands for, None where it is not of this sort."""
    if sort == "number":
        return number_in(word)
    if sort == "gaps":
        return gaps_in(word)
    # Between two blanks, or at an end behind one, stands the word of no sign, which is none.
    return word if word else None


def gaps_in(word):
    rows = [tuple([number_in(part) for part in row.split(",")]) for row in word.split("/")]
    return None if any([None in row for row in rows]) else tuple(rows)


def do_comes(tower, values):
    name, kind, joins, last, due, weight = values
    tower.comes(name, kind, joins, last, due, weight)
    return "ok"


def do_away(tower, values):
    tower.away(values[0])
    return "ok"


def do_later(tower, values):
    tower.later(values[0], values[1])
    return "ok"


def do_shut(tower, values):
    tower.shut(values[0], values[1])
    return "ok"


def do_open(tower, values):
    tower.opened(values[0], values[1])
    return "ok"


def do_aim(tower, values):
    tower.aim(values[0])
    return "ok"


def do_until(tower, values):
    tower.until(values[0])
    return "ok"


def do_undo(tower, values):
    tower.undo()
    return "ok"


def tell_now(tower, values):
    return str(tower.now())


def tell_plan(tower, values):
    return listed([f"{name}@{minute}" for name, minute in tower.plan()])


def tell_landed(tower, values):
    return listed([f"{name}@{minute}" for name, minute in tower.landed()])


def tell_rings(tower, values):
    return listed([f"{name}:{ring}" for name, ring in tower.rings()])


def listed(words):
    return " ".join(words) if words else "none"


ANSWERS = {
    "comes": do_comes,
    "away": do_away,
    "later": do_later,
    "shut": do_shut,
    "open": do_open,
    "aim": do_aim,
    "until": do_until,
    "undo": do_undo,
    "now": tell_now,
    "plan": tell_plan,
    "landed": tell_landed,
    "rings": tell_rings,
}


class Desk:
    """A desk, without a tower at first."""

    def __init__(self):
        self.tower = None

    def say(self, row):
        """The answer to a row, as a text."""
        first, values = parts_of(row)
        if first == "meadow":
            rings, sink, gaps = values
            self.tower = Tower((rings, sink, gaps, ()))
            return "ok"
        if self.tower is None:
            raise NoMeadow("no meadow was told yet")
        answer = ANSWERS[first]
        return answer(self.tower, values)
