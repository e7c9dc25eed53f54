import copy
import unittest

from downrings import errors
from downrings.errors import NoMeadow, NoWay, RingError
from downrings.skies import is_sky
from downrings.tower import Tower
from tests.samples import ANYTHING, BIG, make_meadow
from tests.tower_by_words import TowerByWords

ONE = make_meadow(rings=4, sink=2, gaps=((3,),))
TWO = make_meadow(rings=8, sink=2, gaps=((3, 5), (6, 4)))
WIDE = make_meadow(rings=8, sink=2, gaps=((3,),), shuts=((20, 25), (40, 50)))
ASKED = ("now", "sky", "names", "aimed", "plan", "landed", "rings")

NO_NUMBERS = tuple(thing for thing in ANYTHING if not isinstance(thing, int) or isinstance(thing, bool))
NO_MINUTES = NO_NUMBERS + (-1, 10000, BIG, -BIG)
NO_NAMES = tuple(thing for thing in NO_NUMBERS if thing != "meadow") + (
    0, 1, "", "abcdefghi", "abcdefghijkl", "A", "aB", "a1", "1", "a b", " a", "a ", " ", "a\n", "\n", "a\t", "-", "a-b", "_",
    "a_b", "@", "a@5", "{", "`", "\u00e4", "a" * 2000, ["a"], ("a",), {"a": 1},
)

# Three that come at minute 0, and so land at 2, 5 and 8; a leaves at once.
THREE = (("comes", "a", 0, 0, 50, 10, 1), ("comes", "b", 0, 0, 50, 10, 1), ("comes", "c", 0, 0, 50, 10, 1))
# By cost y, which joins at 5, lands ahead of x, which joins at 3.
TURNED = (("aim", "cost"), ("comes", "x", 0, 3, 60, 5, 1), ("comes", "y", 0, 5, 60, 7, 99))


def tells(tower):
    return {word: getattr(tower, word)() for word in ASKED}


class TowerTest(unittest.TestCase):
    def made(self, meadow, *deeds):
        """A tower by which these deeds are done, each as by the words."""
        tower, words = Tower(meadow), TowerByWords(meadow)
        for deed in deeds:
            self.assertIsNone(words.do(*deed), deed)
            self.assertIsNone(getattr(tower, deed[0])(*deed[1:]))
            self.assertEqual(tells(tower), words.tells(), deed)
            self.assertTrue(is_sky(tower.sky()))
        return tower

    def refused(self, tower, refusal, *deed):
        """Refused so, with nothing changed by it."""
        with self.subTest(deed=str(deed)[:200]):
            before = tells(tower)
            kept = copy.deepcopy(deed)
            with self.assertRaises(getattr(errors, refusal)) as caught:
                getattr(tower, deed[0])(*deed[1:])
            self.assertEqual(tells(tower), before)
            self.assertEqual(deed, kept)
            self.assertIsInstance(caught.exception, RingError)
            return caught.exception

    def no_way(self, tower, stuck, *deed):
        self.assertEqual(self.refused(tower, "NoWay", *deed).stuck, stuck)

    def done(self, tower, *deed):
        """Done, and undone again."""
        with self.subTest(deed=str(deed)[:200]):
            before = tells(tower)
            self.assertIsNone(getattr(tower, deed[0])(*deed[1:]))
            told = tells(tower)
            self.assertIsNone(tower.undo())
            self.assertEqual(tells(tower), before)
            return told


class NewTest(TowerTest):
    def test_a_new_one(self):
        for meadow in (ONE, TWO, WIDE, make_meadow(rings=0, sink=0, gaps=((1,),), shuts=((0, 1),))):
            self.assertEqual(tells(Tower(meadow)), {
                "now": 0, "sky": (meadow, None, (), ()), "names": [], "aimed": "last", "plan": [], "landed": [], "rings": [],
            })

    def test_no_meadow(self):
        for thing in ANYTHING + (list(ONE), ONE[:3], (9,) + ONE[1:], (ONE, None, (), ())):
            with self.subTest(thing=str(thing)[:200]):
                with self.assertRaises(NoMeadow):
                    Tower(thing)


class SkyTest(TowerTest):
    def told(self, tower, minute, ahead, gliders, fixed, rings):
        tower.until(minute)
        with self.subTest(minute=minute):
            self.assertEqual(tower.sky()[1:], (ahead, gliders, fixed))
            self.assertEqual(tower.rings(), rings)

    def test_three_minute_by_minute(self):
        tower = self.made(ONE, *THREE)
        self.assertEqual(tower.plan(), [("a", 2), ("b", 5), ("c", 8)])
        a, b = (0, 0, 2, 2, 10, 1, 0), (0, 3, 5, 5, 10, 1, 0)
        low = [("b", 1), ("c", 2)]
        self.told(tower, 0, None, (a, (0, 0, 2, 50, 10, 1, 1), (0, 0, 2, 50, 10, 1, 2)), (0, 1, 2), low)
        self.told(tower, 1, None, (a, (0, 1, 3, 50, 10, 1, 1), (0, 1, 3, 50, 10, 1, 2)), (0, 1, 2), low)
        self.told(tower, 2, (0, 2), ((0, 2, 4, 50, 10, 1, 1), (0, 2, 4, 50, 10, 1, 2)), (0, 1), low)
        self.told(tower, 3, (0, 2), (b, (0, 3, 5, 50, 10, 1, 1)), (0, 1), [("c", 1)])
        self.told(tower, 4, (0, 2), (b, (0, 4, 6, 50, 10, 1, 1)), (0, 1), [("c", 1)])
        self.told(tower, 5, (0, 5), ((0, 5, 7, 50, 10, 1, 1),), (0,), [("c", 1)])
        self.told(tower, 6, (0, 5), ((0, 6, 8, 8, 10, 1, 0),), (0,), [])
        self.told(tower, 7, (0, 5), ((0, 6, 8, 8, 10, 1, 0),), (0,), [])
        self.told(tower, 8, (0, 8), (), (), [])
        self.told(tower, 9999, (0, 8), (), (), [])
        self.assertEqual(tower.landed(), [("a", 2), ("b", 5), ("c", 8)])

    def test_one_that_has_not_joined_among_the_fixed_ones(self):
        tower = self.made(ONE, *TURNED)
        self.assertEqual(tower.plan(), [("y", 7), ("x", 10)])
        x, y = (0, 3, 5, 60, 5, 1, 0), (0, 5, 7, 60, 7, 99, 0)
        self.told(tower, 0, None, (x, y), (), [])
        self.told(tower, 2, None, (x, y), (), [])
        self.told(tower, 3, None, ((0, 3, 5, 60, 5, 1, 1), y), (1, 0), [("x", 1)])
        self.told(tower, 4, None, ((0, 4, 6, 60, 5, 1, 1), y), (1, 0), [("x", 1)])
        self.told(tower, 5, None, ((0, 5, 7, 60, 5, 1, 1), (0, 5, 7, 7, 7, 99, 0)), (1, 0), [("x", 1)])
        self.told(tower, 7, (0, 7), ((0, 7, 9, 60, 5, 1, 1),), (0,), [("x", 1)])
        self.told(tower, 8, (0, 7), ((0, 8, 10, 10, 5, 1, 0),), (0,), [])

    def test_a_ring_held_for_one_that_joins_later(self):
        # Until 20 the meadow is shut, so y waits, too, from 5 on, below x.
        tower = self.made(make_meadow(rings=4, sink=2, gaps=((3,),), shuts=((4, 20),)), *TURNED)
        self.assertEqual(tower.plan(), [("y", 20), ("x", 23)])
        tower.until(3)
        self.assertEqual(tower.rings(), [("x", 2)])
        self.assertEqual(tower.sky()[2][0], (0, 3, 5, 60, 5, 1, 2))
        for minute, rings in ((5, [("y", 1), ("x", 2)]), (17, [("y", 1), ("x", 2)]), (18, [("x", 1)]), (21, [])):
            tower.until(minute)
            self.assertEqual(tower.rings(), rings)

    def test_fixed_ones_are_those_up_to_the_last_that_has_joined(self):
        # In the plan's order d, a, c, b; they join at 0, 4, 9, 2.
        tower = self.made(TWO, ("comes", "d", 0, 0, 40, 0, 9), ("shut", 3, 12), ("aim", "cost"),
                          ("comes", "a", 0, 4, 12, 0, 9), ("comes", "c", 0, 9, 15, 0, 9), ("comes", "b", 0, 2, 90, 0, 0))
        self.assertEqual([name for name, minute in tower.plan()], ["d", "a", "c", "b"])
        for minute, fixed in ((0, (3,)), (1, (3,)), (2, (0, 2, 1)), (4, (0, 2, 1)), (9, (0, 2, 1)), (12, (1, 0))):
            tower.until(minute)
            self.assertEqual(tower.sky()[3], fixed, minute)

    def test_kept_stretches_and_the_landing_ahead(self):
        tower = self.made(WIDE, ("shut", 0, 1), *THREE[:2])
        for minute, shuts in ((0, ((0, 1), (20, 25), (40, 50))), (1, ((20, 25), (40, 50))), (20, ((20, 25), (40, 50))),
                              (24, ((20, 25), (40, 50))), (25, ((40, 50),)), (49, ((40, 50),)), (50, ()), (51, ())):
            tower.until(minute)
            self.assertEqual(tower.sky()[0], WIDE[:3] + (shuts,), minute)

    def test_the_kind_of_the_landing_ahead(self):
        tower = self.made(TWO, ("comes", "a", 0, 0, 50, 0, 0), ("comes", "b", 1, 1, 50, 0, 0))
        tower.until(2)
        self.assertEqual(tower.sky()[1], (0, 2))
        tower.until(9)
        self.assertEqual((tower.sky()[1], tower.landed()), ((1, 7), [("a", 2), ("b", 7)]))

    def test_names_go_by_letters_whoever_came_first(self):
        tower = self.made(TWO, ("comes", "b", 0, 9, 50, 1, 1), ("comes", "ab", 0, 9, 50, 2, 1),
                          ("comes", "aa", 0, 9, 50, 3, 1), ("comes", "a", 0, 9, 50, 4, 1), ("comes", "zzzzzzzz", 0, 9, 50, 5, 1))
        self.assertEqual(tower.names(), ["a", "aa", "ab", "b", "zzzzzzzz"])
        self.assertEqual([glider[4] for glider in tower.sky()[2]], [4, 3, 2, 1, 5])

    def test_a_plan_that_lands_now_has_not_landed_until_time_goes_on(self):
        tower = self.made(make_meadow(sink=0), ("comes", "a", 0, 0, 9, 0, 0))
        self.assertEqual((tower.plan(), tower.landed(), tower.rings()), ([("a", 0)], [], []))
        self.assertEqual(tower.sky()[1:], (None, ((0, 0, 0, 0, 0, 0, 0),), (0,)))
        self.refused(tower, "Bound", "away", "a")
        self.no_way(tower, ("a",), "shut", 0, 4)
        tower.comes("b", 0, 0, 9, 0, 0)
        self.assertEqual(tower.plan(), [("a", 0), ("b", 3)])
        tower.until(0)
        self.assertEqual((tower.plan(), tower.landed()), ([("b", 3)], [("a", 0)]))


class ComesTest(TowerTest):
    def test_one(self):
        tower = self.made(ONE, ("comes", "a", 0, 4, 50, 10, 1))
        self.assertEqual(tells(tower), {
            "now": 0, "sky": (ONE, None, ((0, 4, 6, 50, 10, 1, 0),), ()), "names": ["a"], "aimed": "last",
            "plan": [("a", 6)], "landed": [], "rings": [],
        })

    def test_who_comes_now_may_land_ahead_of_one_that_joins_later_but_of_none_that_has_joined(self):
        tower = self.made(ONE, ("aim", "cost"), ("shut", 0, 10), ("comes", "a", 0, 0, 90, 0, 1), ("comes", "b", 0, 6, 90, 0, 1))
        self.assertEqual(self.done(tower, "comes", "c", 0, 0, 90, 0, 99)["plan"], [("a", 10), ("c", 13), ("b", 16)])
        tower.until(6)
        self.assertEqual(self.done(tower, "comes", "c", 0, 6, 90, 0, 99)["plan"], [("a", 10), ("b", 13), ("c", 16)])

    def test_who_came_now_has_joined_for_the_next_deed(self):
        tower = self.made(ONE, ("aim", "cost"), ("shut", 0, 10), ("comes", "b", 0, 0, 90, 0, 1), ("comes", "a", 0, 0, 90, 0, 99))
        self.assertEqual(tower.plan(), [("b", 10), ("a", 13)])
        self.assertEqual(tower.rings(), [("b", 1), ("a", 2)])

    def test_names(self):
        tower = self.made(TWO, ("comes", "ab", 0, 3, 50, 10, 1))
        for name in ("a", "z", "abc", "abcdefgh", "zzzzzzzz", "b"):
            self.assertEqual(self.done(tower, "comes", name, 0, 3, 50, 10, 1)["names"], sorted(["ab", name]))
        for name in NO_NAMES + ("ab",):
            self.refused(tower, "NoName", "comes", name, 0, 3, 50, 10, 1)

    def test_kinds(self):
        tower = self.made(TWO)
        for kind in (0, 1):
            self.assertEqual(self.done(tower, "comes", "a", kind, 3, 50, 10, 1)["sky"][2][0][0], kind)
        for kind in NO_NUMBERS + (-1, 2, BIG, -BIG):
            self.refused(tower, "NoGlider", "comes", "a", kind, 3, 50, 10, 1)
        self.refused(self.made(ONE), "NoGlider", "comes", "a", 1, 3, 50, 10, 1)

    def test_joins(self):
        tower = self.made(TWO, ("until", 7))
        for joins in (7, 8, 100, 9997):
            self.assertEqual(self.done(tower, "comes", "a", 0, joins, 9999, 10, 1)["plan"], [("a", joins + 2)])
        for joins in NO_MINUTES + (0, 6, 9998, 9999):
            self.refused(tower, "NoGlider", "comes", "a", 0, joins, 9999, 10, 1)
        tower = self.made(make_meadow(sink=0), ("until", 9999))
        self.assertEqual(self.done(tower, "comes", "a", 0, 9999, 9999, 10, 1)["plan"], [("a", 9999)])
        self.refused(tower, "NoGlider", "comes", "a", 0, 9998, 9999, 10, 1)
        self.refused(tower, "NoGlider", "comes", "a", 0, 10000, 10000, 10, 1)

    def test_last(self):
        tower = self.made(TWO)
        for last in (5, 6, 9999):
            self.assertEqual(self.done(tower, "comes", "a", 0, 3, last, 10, 1)["sky"][2][0][3], last)
        for last in NO_MINUTES + (4, 3, 0):
            self.refused(tower, "NoGlider", "comes", "a", 0, 3, last, 10, 1)

    def test_due(self):
        tower = self.made(TWO)
        for due in (0, 1, 9999):
            self.assertEqual(self.done(tower, "comes", "a", 0, 3, 50, due, 1)["sky"][2][0][4], due)
        for due in NO_MINUTES:
            self.refused(tower, "NoGlider", "comes", "a", 0, 3, 50, due, 1)

    def test_weight(self):
        tower = self.made(TWO)
        for weight in (0, 1, 99):
            self.assertEqual(self.done(tower, "comes", "a", 0, 3, 50, 10, weight)["sky"][2][0][5], weight)
        for weight in NO_NUMBERS + (-1, 100, BIG, -BIG):
            self.refused(tower, "NoGlider", "comes", "a", 0, 3, 50, 10, weight)

    def test_an_eighth_one(self):
        tower = self.made(TWO, *[("comes", name, 0, 0, 50, 10, 1) for name in "abcdefg"])
        self.assertEqual(len(tower.names()), 7)
        self.refused(tower, "TooMany", "comes", "h", 0, 0, 50, 10, 1)
        self.refused(tower, "TooMany", "comes", "h", 0, 9, 9000, 10, 1)
        # One that has landed, or was sent away, leaves room.
        self.assertEqual(len(self.done(tower, "until", 2)["names"]), 6)
        tower.away("g")
        self.assertEqual(self.done(tower, "comes", "h", 0, 0, 50, 10, 1)["names"], list("abcdefh"))
        tower.undo()
        tower.until(1)
        self.refused(tower, "TooMany", "comes", "h", 0, 1, 50, 10, 1)
        tower.until(2)
        self.assertEqual(self.done(tower, "comes", "h", 0, 2, 50, 10, 1)["names"], list("bcdefgh"))

    def test_which_goes_first(self):
        tower = self.made(TWO, *[("comes", name, 0, 0, 50, 10, 1) for name in "abcdefg"])
        self.refused(tower, "NoName", "comes", "A", 9, 0, 50, 10, 1)
        self.refused(tower, "NoName", "comes", "a", 9, 0, 50, 10, 1)
        self.refused(tower, "NoName", "comes", "a", 0, 0, 50, 10, 1)
        self.refused(tower, "NoGlider", "comes", "h", 9, 0, 50, 10, 1)
        self.refused(tower, "NoGlider", "comes", "h", 0, 0, 1, 10, 1)
        self.refused(tower, "TooMany", "comes", "h", 0, 0, 2, 10, 1)
        tower.away("g")
        self.no_way(tower, ("a", "h"), "comes", "h", 0, 0, 2, 10, 1)

    def test_a_name_that_has_landed_or_was_sent_away_comes_again(self):
        tower = self.made(ONE, *THREE, ("away", "b"), ("comes", "b", 0, 1, 50, 10, 1), ("until", 1))
        self.refused(tower, "NoName", "comes", "a", 0, 1, 50, 10, 1)
        tower.until(2)
        tower.comes("a", 0, 2, 50, 10, 1)
        self.assertEqual((tower.names(), tower.landed()), (["a", "b", "c"], [("a", 2)]))
        tower.until(50)
        self.assertEqual(sorted(name for name, minute in tower.landed()), ["a", "a", "b", "c"])

    def test_no_way_by_rings(self):
        tower = self.made(make_meadow(rings=1), *THREE[:2])
        self.no_way(tower, ("a", "b", "c"), "comes", "c", 0, 0, 50, 10, 1)
        self.assertEqual(self.done(tower, "comes", "c", 0, 3, 50, 10, 1)["plan"], [("a", 2), ("b", 5), ("c", 8)])
        self.assertEqual(self.refused(self.made(make_meadow(rings=0), THREE[0]), "NoWay", *THREE[1]).stuck, ("a", "b"))

    def test_no_way_by_itself(self):
        tower = self.made(WIDE, *THREE)
        self.no_way(tower, ("z",), "comes", "z", 0, 18, 24, 10, 1)
        self.assertEqual(self.done(tower, "comes", "z", 0, 18, 25, 10, 1)["plan"][-1], ("z", 25))

    def test_no_way_tells_the_first_of_several_lots(self):
        # c can land at 6 alone, so b, which must land by 8, can't land behind it nor ahead of it.
        tower = self.made(TWO, ("comes", "a", 0, 0, 50, 10, 1), ("comes", "c", 0, 4, 6, 0, 0), ("comes", "d", 0, 4, 9, 0, 0))
        self.no_way(tower, ("b", "c"), "comes", "b", 0, 4, 8, 10, 1)
        self.no_way(tower, ("c", "d", "e"), "comes", "e", 0, 4, 9, 10, 1)


class AwayTest(TowerTest):
    def test_away(self):
        tower = self.made(ONE, *THREE)
        self.assertEqual(self.done(tower, "away", "b")["plan"], [("a", 2), ("c", 5)])
        self.assertEqual(self.done(tower, "away", "b")["rings"], [("c", 1)])
        self.assertEqual(self.done(tower, "away", "c")["names"], ["a", "b"])

    def test_the_last_one(self):
        tower = self.made(ONE, ("comes", "a", 0, 4, 50, 10, 1), ("away", "a"))
        self.assertEqual(tells(tower), tells(Tower(ONE)))

    def test_names(self):
        tower = self.made(ONE, *THREE, ("away", "c"), ("until", 2))
        for name in NO_NAMES + ("a", "c", "d", "bb", "B", "b "):
            self.refused(tower, "NoName", "away", name)

    def test_bound(self):
        # b leaves at 3 and lands at 5; c leaves at 6.
        tower = self.made(ONE, *THREE)
        self.refused(tower, "Bound", "away", "a")
        for minute, refusal in ((0, None), (2, None), (3, "Bound"), (4, "Bound"), (5, "NoName")):
            tower.until(minute)
            if refusal is None:
                self.done(tower, "away", "b")
            else:
                self.refused(tower, refusal, "away", "b")
        self.done(tower, "away", "c")

    def test_who_is_behind_one_that_is_sent_away_is_no_longer_fixed_by_it(self):
        tower = self.made(ONE, *TURNED, ("until", 3))
        told = self.done(tower, "away", "x")
        self.assertEqual((told["sky"][2:], told["plan"]), ((((0, 5, 7, 60, 7, 99, 0),), ()), [("y", 7)]))
        told = self.done(tower, "away", "y")
        self.assertEqual((told["sky"][2:], told["plan"]), ((((0, 3, 5, 5, 5, 1, 0),), (0,)), [("x", 5)]))

    def test_rings_fall_behind_it(self):
        tower = self.made(make_meadow(rings=8, shuts=((0, 30),)), *THREE)
        self.assertEqual(tower.rings(), [("a", 1), ("b", 2), ("c", 3)])
        told = self.done(tower, "away", "b")
        self.assertEqual((told["rings"], told["plan"]), ([("a", 1), ("c", 2)], [("a", 30), ("c", 33)]))
        self.assertEqual([glider[6] for glider in told["sky"][2]], [1, 2])


class LaterTest(TowerTest):
    def test_later(self):
        tower = self.made(ONE, *THREE)
        self.assertEqual(self.done(tower, "later", "b", 99)["sky"][2][1], (0, 0, 2, 99, 10, 1, 1))
        self.assertEqual(self.done(tower, "later", "c", 8)["sky"][2][2], (0, 0, 2, 8, 10, 1, 2))
        self.assertEqual(self.done(tower, "later", "c", 50)["sky"], tower.sky())

    def test_the_plan_is_made_anew(self):
        tower = self.made(ONE, ("comes", "a", 0, 4, 50, 10, 1), ("comes", "b", 0, 4, 50, 10, 1))
        self.assertEqual(tower.plan(), [("a", 6), ("b", 9)])
        self.assertEqual(self.done(tower, "later", "b", 8)["plan"], [("b", 6), ("a", 9)])

    def test_names(self):
        tower = self.made(ONE, *THREE, ("away", "c"), ("until", 2))
        for name in NO_NAMES + ("a", "c", "d"):
            self.refused(tower, "NoName", "later", name, 60)
            self.refused(tower, "NoName", "later", name, None)

    def test_bound(self):
        tower = self.made(ONE, *THREE)
        for minute, refusal in ((0, None), (2, None), (3, "Bound"), (4, "Bound"), (5, "NoName")):
            tower.until(minute)
            for last in (60, -1, None):
                if refusal is not None:
                    self.refused(tower, refusal, "later", "b", last)
                elif last == 60:
                    self.done(tower, "later", "b", last)
                else:
                    self.refused(tower, "NoMinute", "later", "b", last)

    def test_minutes(self):
        # x has joined at 3, y joins at 5.
        tower = self.made(ONE, *TURNED, ("until", 4))
        for name, first in (("x", 6), ("y", 7)):
            for last in NO_MINUTES + (0, first - 1):
                self.refused(tower, "NoMinute", "later", name, last)
        for name, last in (("x", 10), ("x", 9999), ("y", 7), ("y", 9999)):
            self.assertIn(last, [glider[3] for glider in self.done(tower, "later", name, last)["sky"][2]])
        self.no_way(tower, ("x", "y"), "later", "x", 6)
        self.no_way(tower, ("x", "y"), "later", "x", 9)

    def test_at_no_time_gone_by(self):
        tower = self.made(ONE, ("comes", "a", 0, 4, 50, 10, 1))
        self.refused(tower, "NoMinute", "later", "a", 5)
        self.assertEqual(self.done(tower, "later", "a", 6)["sky"][2], ((0, 4, 6, 6, 10, 1, 0),))


class ShutTest(TowerTest):
    def test_shut(self):
        tower = self.made(ONE, *THREE)
        told = self.done(tower, "shut", 4, 20)
        self.assertEqual(told["plan"], [("a", 2), ("b", 20), ("c", 23)])
        self.assertEqual(told["sky"][0][3], ((4, 20),))

    def test_by_rising_minutes_whichever_was_shut_first(self):
        tower = self.made(WIDE, ("shut", 30, 35), ("shut", 5, 9))
        self.assertEqual(tower.sky()[0][3], ((5, 9), (20, 25), (30, 35), (40, 50)))

    def test_minutes(self):
        tower = self.made(WIDE, ("until", 3))
        for begin, end in ((3, 4), (3, 19), (51, 9999), (9998, 9999)):
            self.assertIn((begin, end), self.done(tower, "shut", begin, end)["sky"][0][3])
        for thing in NO_MINUTES:
            self.refused(tower, "NoMinute", "shut", thing, 60)
            self.refused(tower, "NoMinute", "shut", 55, thing)
        for begin, end in ((2, 10), (0, 1), (5, 5), (6, 5), (9999, 9999), (9999, 10000), (-1, 4), (True, 10), (False, True)):
            self.refused(tower, "NoMinute", "shut", begin, end)

    def test_stretches_that_meet_touch_or_lie_one_minute_off(self):
        tower = self.made(WIDE)
        for begin, end in ((10, 19), (26, 30), (26, 39), (51, 60)):
            self.done(tower, "shut", begin, end)
        for begin, end in ((10, 20), (10, 21), (10, 25), (10, 26), (20, 25), (21, 24), (20, 21), (24, 25), (25, 26), (24, 30),
                           (25, 30), (26, 40), (26, 41), (10, 60), (50, 51), (49, 52)):
            self.refused(tower, "NoMinute", "shut", begin, end)

    def test_one_that_has_ended_is_no_longer_in_the_way(self):
        tower = self.made(WIDE, ("until", 24))
        for begin in (24, 25):
            self.refused(tower, "NoMinute", "shut", begin, 30)
        self.done(tower, "shut", 26, 30)
        tower.until(25)
        self.assertEqual(self.done(tower, "shut", 25, 30)["sky"][0][3], ((25, 30), (40, 50)))

    def test_a_fifth_one(self):
        tower = self.made(WIDE, ("comes", "a", 0, 60, 62, 0, 0), ("shut", 1, 2), ("shut", 5, 9))
        self.refused(tower, "TooMany", "shut", 12, 15)
        # A stretch that would leave no way is still the fifth one; one that touches is none at all.
        self.refused(tower, "TooMany", "shut", 60, 70)
        self.refused(tower, "NoMinute", "shut", 9, 15)
        self.refused(tower, "NoMinute", "shut", 15, 12)
        tower.until(1)
        self.refused(tower, "TooMany", "shut", 12, 15)
        tower.until(2)
        self.assertEqual(len(self.done(tower, "shut", 12, 15)["sky"][0][3]), 4)
        self.no_way(tower, ("a",), "shut", 60, 70)

    def test_no_way_where_one_has_left(self):
        tower = self.made(ONE, *THREE)
        self.no_way(tower, ("a",), "shut", 1, 3)
        self.no_way(tower, ("a",), "shut", 2, 3)
        self.assertEqual(self.done(tower, "shut", 3, 4)["plan"], tower.plan())
        tower.until(2)
        self.assertEqual(self.done(tower, "shut", 5, 6)["plan"], [("b", 6), ("c", 9)])
        tower.until(3)
        self.no_way(tower, ("b",), "shut", 5, 6)

    def test_no_way_where_one_would_have_to_climb(self):
        # x holds ring 1 from 3 on; were y to wait, it would need ring 2. Ahead of 3 x isn't bound.
        tower = self.made(ONE, *TURNED, ("until", 2))
        self.assertEqual(self.done(tower, "shut", 7, 9)["plan"], [("x", 5), ("y", 9)])
        tower.until(3)
        self.no_way(tower, ("x", "y"), "shut", 7, 9)
        self.assertEqual(self.done(tower, "shut", 8, 30)["plan"], [("y", 7), ("x", 30)])


class OpenedTest(TowerTest):
    def test_opened(self):
        tower = self.made(make_meadow(shuts=((1, 9), (20, 30))), *THREE)
        self.assertEqual(tower.plan(), [("a", 9), ("b", 12), ("c", 15)])
        told = self.done(tower, "opened", 1, 9)
        self.assertEqual((told["plan"], told["sky"][0][3]), ([("a", 2), ("b", 5), ("c", 8)], ((20, 30),)))
        told = self.done(tower, "opened", 20, 30)
        self.assertEqual((told["plan"], told["sky"][0][3]), (tower.plan(), ((1, 9),)))

    def test_one_that_was_shut_by_a_deed(self):
        tower = self.made(ONE, ("shut", 4, 20))
        before = tells(Tower(ONE))
        tower.opened(4, 20)
        self.assertEqual(tells(tower), before)

    def test_what_is_not_just_one(self):
        tower = self.made(make_meadow(shuts=((0, 1), (5, 9), (12, 15))))
        for begin, end in ((5, 8), (5, 10), (4, 9), (6, 9), (5, 15), (0, 9), (9, 12), (9, 5), (5, 5), (30, 40), (1, 2), (12, 9),
                           (0, True), (False, 1), (False, True), (-1, 10000), (BIG, -BIG)):
            self.refused(tower, "NoMinute", "opened", begin, end)
        for thing in NO_MINUTES:
            self.refused(tower, "NoMinute", "opened", thing, 9)
            self.refused(tower, "NoMinute", "opened", 5, thing)
            self.refused(tower, "NoMinute", "opened", thing, thing)
        self.refused(tower, "NoMinute", "opened", (5, 9), None)

    def test_one_that_begins_ahead_of_now(self):
        tower = self.made(make_meadow(shuts=((5, 9), (12, 15))))
        for minute in (0, 4, 5):
            tower.until(minute)
            self.assertEqual(self.done(tower, "opened", 5, 9)["sky"][0][3], ((12, 15),))
        for minute in (6, 8, 9, 10):
            tower.until(minute)
            self.refused(tower, "NoMinute", "opened", 5, 9)
            self.done(tower, "opened", 12, 15)

    def test_who_has_left_lands_as_it_was_bound(self):
        tower = self.made(make_meadow(shuts=((3, 9),)), *THREE)
        tower.opened(3, 9)
        self.assertEqual(tower.plan(), [("a", 2), ("b", 5), ("c", 8)])
        tower.undo()
        tower.until(2)
        self.assertEqual(self.done(tower, "opened", 3, 9)["plan"], [("b", 5), ("c", 8)])


class AimTest(TowerTest):
    def test_aim(self):
        tower = self.made(ONE, *TURNED[1:])
        self.assertEqual((tower.aimed(), tower.plan()), ("last", [("x", 5), ("y", 8)]))
        told = self.done(tower, "aim", "cost")
        self.assertEqual((told["aimed"], told["plan"]), ("cost", [("y", 7), ("x", 10)]))
        self.assertEqual(self.done(tower, "aim", "last"), tells(tower))

    def test_there_and_back(self):
        tower = self.made(ONE, *TURNED, ("aim", "last"))
        self.assertEqual(tower.plan(), [("x", 5), ("y", 8)])
        tower.aim("cost")
        self.assertEqual(tower.plan(), [("y", 7), ("x", 10)])

    def test_who_has_joined_keeps_its_place(self):
        tower = self.made(ONE, *TURNED, ("until", 3), ("aim", "last"))
        self.assertEqual((tower.aimed(), tower.plan()), ("last", [("y", 7), ("x", 10)]))

    def test_other_things(self):
        tower = self.made(ONE, *THREE)
        for thing in ANYTHING + ("least", "Last", "last ", " cost", "COST", "most", "", ["last"], ("last",), ("last", "cost")):
            self.refused(tower, "NoAim", "aim", thing)


class UntilTest(TowerTest):
    def test_no_minute_one_and_several(self):
        tower = self.made(WIDE, *THREE)
        for minute, landed, shuts in ((0, 0, 2), (1, 0, 2), (1, 0, 2), (2, 1, 2), (4, 1, 2), (8, 3, 2), (24, 3, 2), (25, 3, 1)):
            tower.until(minute)
            self.assertEqual((tower.now(), len(tower.landed()), len(tower.sky()[0][3])), (minute, landed, shuts))
        tower = self.made(WIDE, *THREE, ("until", 60))
        self.assertEqual(tells(tower), {
            "now": 60, "sky": (WIDE[:3] + ((),), (0, 8), (), ()), "names": [], "aimed": "last", "plan": [],
            "landed": [("a", 2), ("b", 5), ("c", 8)], "rings": [],
        })

    def test_the_plan_stays_but_for_those_that_have_landed(self):
        tower = self.made(TWO, ("comes", "a", 0, 0, 50, 0, 0), ("comes", "b", 1, 30, 80, 0, 0), ("comes", "c", 0, 9, 50, 0, 0))
        plan = tower.plan()
        for minute in range(60):
            tower.until(minute)
            self.assertEqual(tower.plan(), [(name, lands) for name, lands in plan if lands > minute])
            self.assertEqual(tower.landed(), [(name, lands) for name, lands in plan if lands <= minute])

    def test_minutes(self):
        tower = self.made(ONE, *THREE, ("until", 4))
        for thing in NO_MINUTES + (0, 3):
            self.refused(tower, "NoMinute", "until", thing)
        self.assertEqual(self.done(tower, "until", 9999)["now"], 9999)
        self.assertEqual(self.done(tower, "until", 4), tells(tower))
        tower.until(9999)
        self.refused(tower, "NoMinute", "until", 9998)
        self.refused(tower, "NoMinute", "until", 10000)
        self.done(tower, "until", 9999)


class UndoTest(TowerTest):
    def test_no_deed(self):
        tower = Tower(ONE)
        self.refused(tower, "NoDeed", "undo")
        self.refused(tower, "NoMinute", "until", -1)
        self.refused(tower, "NoDeed", "undo")
        tower.aim("cost")
        tower.undo()
        self.refused(tower, "NoDeed", "undo")

    def test_each_sort_of_deed_time_that_went_on_among_them(self):
        deeds = THREE + (("until", 1), ("shut", 30, 40), ("aim", "cost"), ("until", 4), ("comes", "a", 0, 9, 60, 0, 9),
                         ("later", "c", 70), ("opened", 30, 40), ("until", 4), ("away", "a"), ("until", 60), ("shut", 60, 61))
        tower = Tower(ONE)
        told = [tells(tower)]
        for deed in deeds:
            getattr(tower, deed[0])(*deed[1:])
            told.append(tells(tower))
        self.assertEqual(told[-1], tells(self.made(ONE, *deeds)))
        for again in range(2):
            for at in range(len(deeds), 0, -1):
                self.assertEqual(tells(tower), told[at])
                tower.undo()
            self.assertEqual(tells(tower), told[0])
            self.refused(tower, "NoDeed", "undo")
            for deed in deeds:
                getattr(tower, deed[0])(*deed[1:])

    def test_what_is_refused_is_no_deed(self):
        tower = self.made(ONE, *THREE)
        for deed in (("comes", "a", 0, 0, 50, 10, 1), ("away", "a"), ("later", "b", 1), ("shut", 2, 3), ("opened", 2, 3),
                     ("aim", "most"), ("until", -1)):
            with self.assertRaises(RingError):
                getattr(tower, deed[0])(*deed[1:])
        tower.undo()
        self.assertEqual(tower.names(), ["a", "b"])

    def test_undoing_is_no_deed(self):
        tower = self.made(ONE, *THREE)
        tower.undo()
        tower.undo()
        self.assertEqual(tower.names(), ["a"])

    def test_another_way_behind_undo(self):
        tower = self.made(ONE, *THREE)
        tower.undo()
        tower.comes("d", 0, 1, 50, 10, 1)
        tower.until(3)
        self.assertEqual(tower.names(), ["b", "d"])
        for many in (["a", "b", "d"], ["a", "b"], ["a"], []):
            tower.undo()
            self.assertEqual(tower.names(), many)


class PointTwoTest(TowerTest):
    def test_two_towers_have_nothing_in_common(self):
        one, other = Tower(WIDE), Tower(WIDE)
        new = tells(other)
        for deed in THREE + (("shut", 5, 9), ("opened", 20, 25), ("aim", "cost"), ("until", 3), ("undo",)):
            getattr(one, deed[0])(*deed[1:])
            self.assertEqual(tells(other), new)
        self.refused(other, "NoDeed", "undo")
        other.comes("a", 0, 1, 60, 0, 0)
        self.assertEqual((one.names(), other.names()), (["a", "b", "c"], ["a"]))

    def test_lists_are_the_askers_own(self):
        tower = self.made(ONE, *THREE, ("until", 2))
        kept = copy.deepcopy(tells(tower))
        for word in ("names", "plan", "landed", "rings"):
            told = getattr(tower, word)()
            self.assertIsInstance(told, list)
            told.append(("z", 9))
            told[0] = None
            self.assertEqual(tells(tower), kept)
            getattr(tower, word)().clear()
            self.assertEqual(tells(tower), kept)
        tower.comes("d", 0, 2, 60, 0, 0)
        tower.undo()
        self.assertEqual(tells(tower), kept)
        self.assertEqual(tower.landed(), [("a", 2)])

    def test_what_was_told_stays(self):
        tower = self.made(ONE, *THREE)
        told = tells(tower)
        kept = copy.deepcopy(told)
        tower.away("c")
        tower.shut(30, 40)
        tower.until(9)
        tower.aim("cost")
        tower.undo()
        self.assertEqual(told, kept)

    def test_asking_changes_nothing(self):
        tower = self.made(ONE, *THREE, ("until", 1))
        for word in ASKED:
            self.assertEqual(getattr(tower, word)(), getattr(tower, word)())
        tower.undo()
        self.assertEqual(tower.now(), 0)

    def test_the_names_that_are_stuck_are_a_tuple(self):
        tower = self.made(ONE, *THREE)
        with self.assertRaises(NoWay) as caught:
            tower.shut(2, 3)
        self.assertEqual(caught.exception.stuck, ("a",))
        self.assertIsInstance(caught.exception.stuck, tuple)


if __name__ == "__main__":
    unittest.main()
