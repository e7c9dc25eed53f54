"""All refusals: each is a RingError, and none of them is another one."""


class RingError(ValueError):
    """Any refusal."""


class NoMeadow(RingError):
    """What was handed in is no meadow, or there is none yet."""


class NoSky(RingError):
    """What was handed in is no sky."""


class NoLandings(RingError):
    """What was handed in are no landings, or they don't keep the sky."""


class NoOrder(RingError):
    """What was handed in is no order of the sky's gliders."""


class NoLot(RingError):
    """What was handed in is no lot of the sky's gliders."""


class NoText(RingError):
    """What was handed in is not written of any sky."""


class NoName(RingError):
    """What was handed in is no name, or not one that may stand there."""


class NoGlider(RingError):
    """What was handed in makes no glider."""


class NoMinute(RingError):
    """What was handed in is no minute, or not one that may stand there."""


class NoAim(RingError):
    """What was handed in is no aim."""


class TooMany(RingError):
    """One more than there may be."""


class Bound(RingError):
    """The glider has left the rings, so nothing about it can be turned."""


class NoDeed(RingError):
    """No deed is left to be undone."""


class NoRow(RingError):
    """What was handed in is no row that a desk understands."""


class NoWay(RingError):
    """No landings keep the sky that would be; stuck are the names that can't all land."""

    def __init__(self, stuck):
        RingError.__init__(self, "no landings keep the sky that would be")
        self.stuck = stuck
