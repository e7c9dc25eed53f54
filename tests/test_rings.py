import collections
import copy
import random
import unittest

from downrings.errors import NoLandings, NoSky
from downrings.landings import keeps
from downrings.orders import soonest
from downrings.rings import held, is_holding, waiting
from downrings.skies import is_sky
from tests.by_words import all_holdings, is_holding_by_words, keeps_by_words, needs, rings_of, waits_by_words
from tests.by_words import waiting as waiting_by_words
from tests.chance import a_free_sky, a_sky, an_order, later_landings
from tests.samples import ANYTHING, BIG, make_glider, make_meadow, make_sky

# Landing at 10, 14, 18, so leaving at 8, 12, 16; glider 1 joins when glider 2 has been waiting for a while.
MEADOW = make_meadow(rings=4, sink=2, gaps=((3,),))
GLIDERS = (make_glider(joins=0, first=2), make_glider(joins=5, first=7), make_glider(joins=3, first=5))
SKY = make_sky(GLIDERS, meadow=MEADOW)
LANDINGS = [(0, 10), (1, 14), (2, 18)]
HELD = [[(0, 1)], [(5, 2), (8, 1)], [(3, 3), (8, 2), (12, 1)]]

NO_LANDINGS = ANYTHING + (
    LANDINGS[:2], LANDINGS[::-1], tuple(LANDINGS), [list(pair) for pair in LANDINGS], [(0, 10), (1, 12), (2, 18)],
    [(0, 1), (1, 14), (2, 18)], [(0, 10), (1, 14), (2, 101)], LANDINGS + [(3, 22)], LANDINGS + [(2, 22)],
    [(False, 10), (1, 14), (2, 18)], [(0, 10), (True, 14), (2, 18)], HELD,
)


def replaced_in(holding, g, steps):
    return holding[:g] + [steps] + holding[g + 1:]


def some_that_keep(chance, many):
    """A sky of so many gliders (some with a highest ring) and landings that keep it, the soonest or later ones."""
    while True:
        sky = a_sky(chance, many) if chance.random() < 0.5 else a_free_sky(chance, many)
        if len(sky[2]) != many:
            continue
        order = an_order(chance, sky)
        told = soonest(sky, order)
        if told[0] == "lands":
            later = later_landings(chance, sky, order)
            return sky, later if keeps_by_words(sky, later) else told[1]


class HeldTest(unittest.TestCase):
    def told(self, sky, landings, holding):
        with self.subTest(sky=sky, landings=landings):
            self.assertTrue(is_sky(sky))
            self.assertEqual(held(sky, landings), holding)
            self.assertTrue(is_holding_by_words(sky, landings, holding))
            self.assertIs(is_holding(sky, landings, holding), True)

    def test_no_gliders(self):
        self.told(make_sky(), [], [])
        self.told(make_sky(ahead=(0, 9), meadow=make_meadow(rings=0)), [], [])

    def test_one(self):
        one = make_sky((make_glider(joins=4, first=6),))
        for minute, holding in ((6, [[]]), (7, [[(4, 1)]]), (90, [[(4, 1)]])):
            self.told(one, [(0, minute)], holding)

    def test_three(self):
        self.told(SKY, LANDINGS, HELD)

    def test_by_numbers_not_by_landings(self):
        sky = make_sky((GLIDERS[2], GLIDERS[0], GLIDERS[1]), meadow=MEADOW)
        self.told(sky, [(1, 10), (2, 14), (0, 18)], [HELD[2], HELD[0], HELD[1]])

    def test_a_higher_ring_is_held_for_one_that_joins_later(self):
        # Glider 0 joins at 20 and lands ahead of glider 1, which waits from 0 on and may not climb then.
        gliders = (make_glider(joins=20, first=22), make_glider(joins=0, first=2))
        self.told(make_sky(gliders, meadow=MEADOW), [(0, 30), (1, 40)], [[(20, 1)], [(0, 2), (28, 1)]])
        # Where glider 0 doesn't wait ring 1 is enough.
        self.told(make_sky(gliders, meadow=MEADOW), [(0, 22), (1, 40)], [[], [(0, 1)]])

    def test_one_that_leaves_where_another_joins(self):
        # Glider 0 leaves at 8; glider 1 joins a minute ahead of it, then, and a minute behind it.
        for joins, steps in ((7, [(7, 2), (8, 1)]), (8, [(8, 1)]), (9, [(9, 1)])):
            sky = make_sky((make_glider(first=2), make_glider(joins=joins, first=joins + 2)), meadow=MEADOW)
            self.told(sky, [(0, 10), (1, 20)], [[(0, 1)], steps])

    def test_seven(self):
        sky = make_sky((make_glider(first=2),) * 7, meadow=make_meadow(rings=7))
        landings = [(g, 10 + 3 * at) for at, g in enumerate((6, 2, 4, 0, 1, 3, 5))]
        holding = held(sky, landings)
        for at, (g, minute) in enumerate(landings):
            steps = [(0, at + 1)] + [(landings[n][1] - 2, at - n) for n in range(at)]
            self.assertEqual(holding[g], steps)
        self.assertIs(is_holding(sky, landings, holding), True)

    def test_a_highest_ring(self):
        # It bounds, but it doesn't lift.
        for ring in (0, 3, 4):
            gliders = (GLIDERS[0], GLIDERS[1], make_glider(joins=3, first=5, ring=ring))
            self.told(make_sky(gliders, fixed=(0, 1, 2), meadow=MEADOW), LANDINGS, HELD)

    def test_against_the_words(self):
        chance = random.Random(16)
        seen = collections.Counter()
        for turn in range(640):
            sky, landings = some_that_keep(chance, turn % 8)
            self.assertTrue(is_sky(sky))
            holding = held(sky, landings)
            self.assertTrue(is_holding_by_words(sky, landings, holding), (sky, landings))
            self.assertIs(is_holding(sky, landings, holding), True)
            for g, steps in enumerate(holding):
                there = waits_by_words(sky, landings, g)
                rings = {minute: needs(sky, landings, g, minute) for minute in there}
                self.assertEqual(rings_of(steps, there), rings, (sky, landings, g))
                self.assertIs(steps == [], there == [])
            seen[len(holding)] += 1
            seen["steps"] += any(len(steps) > 2 for steps in holding)
            seen["bound"] += any(glider[6] and steps for glider, steps in zip(sky[2], holding))
        self.assertEqual(set(seen), set(range(8)) | {"steps", "bound"})
        self.assertGreater(min(seen.values()), 20, seen)

    def test_no_right_holding_is_lower(self):
        chance = random.Random(61)
        seen = collections.Counter()
        while seen[1, False] < 10 or seen[2, True] < 50 or seen[3, True] < 50:
            sky, landings = some_that_keep(chance, chance.randint(1, 3))
            if landings[-1][1] > 20:
                continue
            all_right = all_holdings(sky, landings, 2000)
            if all_right is None:
                continue
            lowest = held(sky, landings)
            self.assertIn(lowest, all_right)
            for holding in all_right:
                self.assertIs(is_holding(sky, landings, holding), True, (sky, landings, holding))
                for g in range(len(sky[2])):
                    there = waits_by_words(sky, landings, g)
                    low, other = rings_of(lowest[g], there), rings_of(holding[g], there)
                    self.assertTrue(all(low[minute] <= other[minute] for minute in there), (sky, landings, holding))
            seen[len(landings), len(all_right) > 1] += 1


class IsHoldingTest(unittest.TestCase):
    def told(self, sky, landings, holding, told):
        with self.subTest(holding=str(holding)[:200]):
            self.assertIs(is_holding_by_words(sky, landings, holding), told)
            self.assertIs(is_holding(sky, landings, holding), told)

    def test_right_ones_that_are_not_the_lowest(self):
        for holding in (
            [[(0, 1)], [(5, 3), (8, 1)], [(3, 4), (8, 2), (12, 1)]],
            [[(0, 1)], [(5, 3), (6, 2), (8, 1)], [(3, 4), (9, 2), (12, 1)]],
            [[(0, 2), (7, 1)], [(5, 3), (11, 1)], [(3, 4), (15, 1)]],
            [[(0, 4), (1, 3), (2, 2), (4, 1)], [(5, 2), (8, 1)], [(3, 3), (8, 2), (12, 1)]],
        ):
            self.told(SKY, LANDINGS, holding, True)
            self.assertNotEqual(holding, HELD)

    def test_each_way_in_which_it_is_none(self):
        for g, steps in (
            # The first minute isn't the one of joining.
            (0, [(1, 1)]), (0, [(-1, 1)]), (1, [(4, 2), (8, 1)]), (1, [(6, 2), (8, 1)]), (2, [(0, 3), (8, 2), (12, 1)]),
            # A minute of leaving or later.
            (0, [(0, 2), (8, 1)]), (0, [(0, 2), (9, 1)]), (1, [(5, 2), (12, 1)]), (2, [(3, 3), (8, 2), (16, 1)]),
            (2, [(3, 4), (8, 3), (12, 2), (BIG, 1)]),
            # Minutes that don't rise.
            (1, [(5, 3), (5, 2), (8, 1)]), (2, [(3, 4), (9, 3), (9, 2), (12, 1)]), (2, [(3, 4), (9, 3), (8, 2), (12, 1)]),
            (2, [(3, 3), (12, 2), (8, 1)]),
            # Rings that don't fall.
            (0, [(0, 1), (3, 1)]), (1, [(5, 2), (6, 2), (8, 1)]), (1, [(5, 2), (8, 1), (9, 1)]),
            (2, [(3, 3), (5, 4), (8, 2), (12, 1)]), (2, [(3, 3), (8, 1), (9, 2), (12, 1)]),
            # A ring of 0, or below.
            (0, [(0, 0)]), (0, [(0, 1), (7, 0)]), (1, [(5, 2), (8, 1), (9, 0)]), (2, [(3, 3), (8, 2), (12, 1), (13, -1)]),
            (0, [(0, -1)]),
            # A ring above those there are.
            (2, [(3, 5), (8, 2), (12, 1)]), (2, [(3, BIG), (8, 2), (12, 1)]),
            # Another ring than 1 at the last minute.
            (0, [(0, 2)]), (1, [(5, 2)]), (2, [(3, 3), (8, 2)]), (2, [(3, 4), (8, 3), (12, 2)]),
            # Two on one ring.
            (1, [(5, 1)]), (1, [(5, 3), (8, 1)]), (1, [(5, 2), (7, 1)]), (2, [(3, 3), (8, 2), (11, 1)]),
            (2, [(3, 2), (12, 1)]), (2, [(3, 3), (7, 2), (12, 1)]),
            # The sooner one on the higher ring.
            (0, [(0, 4), (6, 1)]), (1, [(5, 4), (8, 1)]), (1, [(5, 4), (6, 2), (8, 1)]), (2, [(3, 1)]),
            (0, [(0, 3), (6, 1)]),
            # Of one that waits there is none.
            (0, []), (1, []), (2, []),
            # Other things.
            (0, ((0, 1),)), (0, [[0, 1]]), (0, [(0, True)]), (0, [(False, 1)]), (1, [(5, 2), (8, True)]), (0, (0, 1)),
            (0, [0, 1]), (0, [(0,)]), (0, [(0, 1, 1)]), (0, [()]), (0, {(0, 1): 1}), (0, {0: 1}), (0, [(0, "1")]),
            (0, [("0", 1)]), (0, [(0, None)]), (0, [None]), (0, None), (0, "01"), (0, [(0, (1,))]), (0, [((0,), 1)]),
            (0, 1), (0, [["0", 1]]), (0, [(0, 1), ()]), (0, [(0, 1), None]),
        ):
            self.told(SKY, LANDINGS, replaced_in(HELD, g, steps), False)

    def test_lists_too_many_or_too_few(self):
        for holding in ([], HELD[:1], HELD[:2], HELD[1:], HELD + [[]], HELD + [[(0, 1)]], [HELD], HELD + HELD):
            self.told(SKY, LANDINGS, holding, False)
        self.told(make_sky(), [], [], True)
        self.told(make_sky(), [], [[]], False)

    def test_tuples_for_lists_and_lists_for_tuples(self):
        for holding in (tuple(HELD), [tuple(steps) for steps in HELD], [[list(step) for step in steps] for steps in HELD],
                        dict(enumerate(HELD)), {g: steps for g, steps in enumerate(HELD)}):
            self.told(SKY, LANDINGS, holding, False)

    def test_of_anything(self):
        self.told(SKY, LANDINGS, HELD, True)
        for thing in ANYTHING:
            self.told(SKY, LANDINGS, thing, False)
            for g in range(3):
                self.told(SKY, LANDINGS, replaced_in(HELD, g, thing), False)
            self.told(SKY, LANDINGS, replaced_in(HELD, 0, [thing]), False)
            self.told(SKY, LANDINGS, replaced_in(HELD, 0, [(0, 1), thing]), False)
            self.told(SKY, LANDINGS, replaced_in(HELD, 2, [(3, 3), (8, 2), (12, 1), thing]), False)
        for wide in ([(0, 1)] * 6000, [(m, 7000 - m) for m in range(6000)], [(0, 4)] + [(0, 1)] * 6000):
            self.told(SKY, LANDINGS, replaced_in(HELD, 0, wide), False)

    def test_one_that_does_not_wait(self):
        sky = make_sky((make_glider(joins=8, first=10), make_glider(joins=0, first=2)), meadow=MEADOW)
        landings = [(0, 10), (1, 14)]
        self.assertEqual(held(sky, landings), [[], [(0, 1)]])
        for steps in ([(8, 1)], [(7, 1)], [(8, 2), (9, 1)], [(0, 1)], [()], (), None):
            self.told(sky, landings, [steps, [(0, 1)]], False)

    def test_above_the_ring_that_it_may_hold(self):
        for ring, told in ((0, True), (4, True), (3, False)):
            gliders = (GLIDERS[0], GLIDERS[1], make_glider(joins=3, first=5, ring=ring))
            sky = make_sky(gliders, fixed=(0, 1, 2), meadow=MEADOW)
            self.told(sky, LANDINGS, replaced_in(HELD, 2, [(3, 4), (8, 2), (12, 1)]), told)
            self.told(sky, LANDINGS, HELD, True)

    def test_rings_that_they_leave_where_another_comes(self):
        # Glider 0 leaves ring 1 at 8, just when glider 1 joins on it.
        sky = make_sky((make_glider(first=2), make_glider(joins=8, first=10)), meadow=MEADOW)
        self.told(sky, [(0, 10), (1, 20)], [[(0, 1)], [(8, 1)]], True)
        self.told(sky, [(0, 11), (1, 20)], [[(0, 1)], [(8, 1)]], False)
        self.told(sky, [(0, 11), (1, 20)], [[(0, 1)], [(8, 2), (9, 1)]], True)

    def test_where_they_meet_on_a_ring_only_later(self):
        # Both lists are right by themselves; at minute 12 alone they are on one ring.
        gliders = (make_glider(joins=0, first=2), make_glider(joins=0, first=2))
        sky = make_sky(gliders, meadow=MEADOW)
        landings = [(0, 20), (1, 30)]
        self.told(sky, landings, [[(0, 2), (13, 1)], [(0, 3), (12, 2), (18, 1)]], False)
        self.told(sky, landings, [[(0, 2), (12, 1)], [(0, 3), (12, 2), (18, 1)]], True)
        self.told(sky, landings, [[(0, 2), (12, 1)], [(0, 4), (12, 2), (17, 1)]], False)

    def test_against_the_words(self):
        chance = random.Random(17)
        seen = collections.Counter()
        for turn in range(4000):
            sky, landings = some_that_keep(chance, turn % 5)
            holding = self.spoilt(chance, held(sky, landings))
            told = is_holding_by_words(sky, landings, holding)
            self.assertIs(is_holding(sky, landings, holding), told, (sky, landings, holding))
            seen[told] += 1
        self.assertGreater(min(seen.values()), 400, seen)

    def spoilt(self, chance, holding):
        """Some of its numbers changed by a little, some tuples put in or left out."""
        for change in range(chance.choice((0, 1, 1, 1, 2, 2, 3))):
            full = [steps for steps in holding if steps]
            if not full:
                return holding
            steps = chance.choice(full)
            at = chance.randrange(len(steps))
            minute, ring = steps[at]
            way = chance.randrange(4)
            if way == 0:
                steps[at] = (minute + chance.choice((-1, 1)), ring)
            elif way == 1:
                steps[at] = (minute, ring + chance.choice((-1, 1, 1, 1)))
            elif way == 2:
                steps.insert(at + 1, (minute + 1, ring))
                steps[at] = (minute, ring + 1)
            else:
                steps.pop(at)
        return holding


class WaitingTest(unittest.TestCase):
    def test_ahead_of_within_and_behind(self):
        for minute, told in (
            (-BIG, []), (-1, []), (0, [0]), (2, [0]), (3, [0, 2]), (4, [0, 2]), (5, [0, 1, 2]), (7, [0, 1, 2]),
            (8, [1, 2]), (11, [1, 2]), (12, [2]), (15, [2]), (16, []), (18, []), (9999, []), (10000, []), (BIG, []),
        ):
            self.assertEqual(waiting(SKY, LANDINGS, minute), told, minute)

    def test_none(self):
        for minute in (-1, 0, 5, BIG):
            self.assertEqual(waiting(make_sky(), [], minute), [])
            self.assertEqual(waiting(make_sky((make_glider(joins=5, first=7),)), [(0, 7)], minute), [])

    def test_by_rings_at_each_minute(self):
        chance = random.Random(18)
        for turn in range(160):
            sky, landings = some_that_keep(chance, turn % 8)
            holding = held(sky, landings)
            for minute in range(-2, max([0] + [lands for g, lands in landings]) + 3):
                told = waiting(sky, landings, minute)
                there = [g for g in range(len(sky[2])) if g in waiting_by_words(sky, landings, minute)]
                self.assertEqual(sorted(told), there)
                rings = [rings_of(holding[g], [minute])[minute] for g in told]
                self.assertTrue(all(a < b for a, b in zip(rings, rings[1:])), (sky, landings, minute))


class RefusalsTest(unittest.TestCase):
    ASKS = (held, lambda sky, landings: is_holding(sky, landings, HELD), lambda sky, landings: waiting(sky, landings, 5))

    def test_no_landings(self):
        for thing in NO_LANDINGS:
            for ask in self.ASKS:
                with self.subTest(thing=str(thing)[:200]):
                    with self.assertRaises(NoLandings):
                        ask(SKY, thing)

    def test_no_landings_where_the_rings_are_broken(self):
        crowded = make_sky((make_glider(),) * 2, meadow=make_meadow(rings=1))
        low = make_sky((make_glider(), make_glider(ring=1)), fixed=(0, 1))
        for sky in (crowded, low):
            self.assertFalse(keeps(sky, [(0, 20), (1, 23)]))
            for ask in self.ASKS:
                with self.assertRaises(NoLandings):
                    ask(sky, [(0, 20), (1, 23)])

    def test_no_landings_whatever_the_holding(self):
        for thing in ANYTHING:
            with self.assertRaises(NoLandings):
                is_holding(SKY, LANDINGS[:2], thing)

    def test_no_sky_ahead_of_all_else(self):
        for sky in ANYTHING + (SKY[:3], list(SKY), SKY[:3] + ((3,),), MEADOW):
            for landings in (LANDINGS, [], None):
                for ask in self.ASKS:
                    with self.assertRaises(NoSky):
                        ask(sky, landings)
                with self.assertRaises(NoSky):
                    is_holding(sky, landings, None)


class PointTwoTest(unittest.TestCase):
    def test_nothing_is_changed_and_answers_stay(self):
        for holding in (HELD, HELD[:2], [[], [], []], [[None]] * 3):
            kept = copy.deepcopy((SKY, LANDINGS, holding))
            for ask in (lambda: held(SKY, LANDINGS), lambda: is_holding(SKY, LANDINGS, holding),
                        lambda: waiting(SKY, LANDINGS, 6)):
                self.assertEqual(ask(), ask())
                self.assertEqual((SKY, LANDINGS, holding), kept)

    def test_what_was_told_is_the_askers_own(self):
        told = held(SKY, LANDINGS)
        for steps in told:
            steps.clear()
        told.clear()
        self.assertEqual(held(SKY, LANDINGS), HELD)
        same = make_sky((make_glider(joins=8, first=10),) * 2, meadow=MEADOW)
        told = held(same, [(0, 10), (1, 14)])
        told[0].append((0, 0))
        self.assertEqual(told, [[(0, 0)], [(8, 1)]])
        self.assertEqual(held(same, [(0, 10), (1, 14)]), [[], [(8, 1)]])
        there = waiting(SKY, LANDINGS, 6)
        there.append(9)
        self.assertEqual(waiting(SKY, LANDINGS, 6), [0, 1, 2])

    def test_lists_for_gliders_that_do_not_wait_are_lists_of_their_own(self):
        sky = make_sky((make_glider(joins=8, first=10), make_glider(joins=20, first=22)), meadow=MEADOW)
        told = held(sky, [(0, 10), (1, 22)])
        told[0].append((0, 0))
        self.assertEqual(told[1], [])

    def test_nothing_hangs_on_what_was_handed_in(self):
        landings = list(LANDINGS)
        told = held(SKY, landings)
        landings.clear()
        self.assertEqual(told, HELD)


if __name__ == "__main__":
    unittest.main()
