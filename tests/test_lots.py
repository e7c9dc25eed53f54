import collections
import copy
import random
import unittest

from downrings.best import least_last
from downrings.errors import NoLot, NoSky
from downrings.lots import can_land, least_sendings, least_stuck, longer, narrowed
from downrings.skies import is_sky
from tests.by_words import (all_orders, lands_by_words, later_by_words, least_by_words, lots_by_words, narrowed_by_words,
                            soonest_by_words)
from tests.chance import a_free_sky, a_sky
from tests.samples import ANYTHING, BIG, make_glider, make_meadow, make_sky, replaced

MEADOW = make_meadow(rings=3, sink=2, gaps=((3, 5), (6, 4)), shuts=((30, 40),))
GLIDERS = (
    make_glider(kind=0, first=10),
    make_glider(kind=1, first=11, ring=2),
    make_glider(kind=0, first=12),
    make_glider(kind=1, first=13, ring=3),
    make_glider(kind=0, first=14),
)
SKY = make_sky(GLIDERS, fixed=(3, 4, 1), ahead=(1, 4), meadow=MEADOW)

NO_LOTS = (
    (5,), (-1,), (0, 5), (-1, 0), (BIG,), (-BIG,), (0, 0), (1, 1, 2), (1, 0), (0, 2, 1), (4, 3, 2, 1, 0), (0, 1, 2, 3, 4, 5),
    (True,), (False,), (0, True), (False, 1), (None,), ("0",), ((0,),), ([0],), ({},), [], [0], [0, 1], {}, {0: 0}, "", "01",
    None, 0, 1, True, False, (0, None), (0, "1"), (0, (1,)),
)

# As many wait from minute 0 on as there are gliders; of two minutes 10 and 13 each kind of lot has its own troubles.
CROWDED = make_sky((make_glider(first=10, last=13),) * 5, meadow=make_meadow(rings=8))


def a_crowded_sky(chance):
    """A sky of none to five gliders, the most of which can't all land."""
    sky = a_free_sky(chance, chance.randint(0, 5)) if chance.random() < 0.5 else a_sky(chance, 5)
    squeezed = tuple(g[:3] + (g[2] + (g[3] - g[2]) // 4,) + g[4:] for g in sky[2])
    return (sky[0], sky[1], squeezed, sky[3])


class NarrowedTest(unittest.TestCase):
    def test_lots_of_none_one_some_and_all(self):
        for lot, numbers, fixed in (
            ((), (), ()), ((0,), (0,), ()), ((1,), (1,), (0,)), ((3,), (3,), (0,)), ((0, 2), (0, 2), ()),
            ((1, 3), (1, 3), (1, 0)), ((1, 4), (1, 4), (1, 0)), ((0, 3, 4), (0, 3, 4), (1, 2)),
            ((1, 2, 3), (1, 2, 3), (2, 0)), ((0, 1, 2, 4), (0, 1, 2, 4), (3, 1)),
            ((0, 1, 2, 3, 4), (0, 1, 2, 3, 4), (3, 4, 1)),
        ):
            with self.subTest(lot=lot):
                told = narrowed(SKY, lot)
                self.assertEqual(told, (MEADOW, (1, 4), tuple(GLIDERS[g] for g in numbers), fixed))
                self.assertTrue(is_sky(told))

    def test_of_no_gliders(self):
        self.assertEqual(narrowed(make_sky(ahead=(0, 7)), ()), make_sky(ahead=(0, 7)))

    def test_of_seven(self):
        gliders = tuple(make_glider(due=due) for due in range(7))
        sky = make_sky(gliders, fixed=(6, 0, 3))
        self.assertEqual(narrowed(sky, (0, 1, 2, 3, 4, 5, 6)), sky)
        self.assertEqual(narrowed(sky, (3, 5, 6)), make_sky((gliders[3], gliders[5], gliders[6]), fixed=(2, 0)))

    def test_each_lot_by_chance(self):
        chance = random.Random(13)
        for turn in range(60):
            sky = a_crowded_sky(chance)
            for lot in lots_by_words(sky):
                told = narrowed(sky, lot)
                self.assertEqual(told, narrowed_by_words(sky, lot))
                self.assertTrue(is_sky(told), told)
                self.assertEqual(narrowed(told, tuple(range(len(lot)))), told)

    def test_what_is_no_lot(self):
        for ask in (narrowed, can_land):
            for thing in NO_LOTS:
                with self.subTest(thing=thing):
                    with self.assertRaises(NoLot):
                        ask(SKY, thing)
            for thing in ANYTHING:
                if thing not in ((), (0,)):
                    with self.subTest(thing=str(thing)[:200]):
                        with self.assertRaises(NoLot):
                            ask(SKY, thing)

    def test_what_is_no_lot_of_no_gliders(self):
        for ask in (narrowed, can_land):
            for thing in ANYTHING:
                if thing != ():
                    with self.assertRaises(NoLot):
                        ask(make_sky(), thing)


class CanLandTest(unittest.TestCase):
    def test_none_can_land(self):
        for sky in (SKY, make_sky(), CROWDED, make_sky((make_glider(),), meadow=make_meadow(rings=0))):
            self.assertIs(can_land(sky, ()), True)

    def test_two_of_five(self):
        for lot in lots_by_words(CROWDED):
            self.assertIs(can_land(CROWDED, lot), len(lot) <= 2, lot)

    def test_by_rings(self):
        sky = make_sky((make_glider(joins=0), make_glider(joins=0), make_glider(joins=40, first=42), make_glider(joins=0)),
                       meadow=make_meadow(rings=2))
        for lot, told in (((0,), True), ((0, 1), True), ((0, 1, 2), True), ((0, 1, 3), False), ((0, 2, 3), True),
                          ((0, 1, 2, 3), False)):
            self.assertIs(can_land(sky, lot), told)

    def test_by_the_highest_ring(self):
        sky = make_sky((make_glider(), make_glider(ring=1), make_glider()), fixed=(0, 1))
        for lot, told in (((0,), True), ((1,), True), ((0, 1), False), ((0, 2), True), ((1, 2), True), ((0, 1, 2), False)):
            self.assertIs(can_land(sky, lot), told)

    def test_against_all_orders(self):
        chance = random.Random(14)
        seen = collections.Counter()
        for turn in range(150):
            sky = a_crowded_sky(chance)
            self.assertTrue(is_sky(sky))
            lands = {lot: can_land(sky, lot) for lot in lots_by_words(sky)}
            for lot, told in lands.items():
                self.assertIs(told, lands_by_words(narrowed_by_words(sky, lot)), (sky, lot))
                self.assertIs(told, least_last(narrowed(sky, lot)) is not None)
                seen[told] += 1
                for inner in lands:
                    if told and set(inner) <= set(lot):
                        self.assertIs(lands[inner], True, (sky, lot, inner))
        self.assertGreater(min(seen.values()), 100, seen)


class StuckAndSendingsTest(unittest.TestCase):
    def told(self, sky, stuck, sendings):
        with self.subTest(sky=sky):
            self.assertTrue(is_sky(sky))
            self.assertEqual(least_stuck(sky), stuck)
            self.assertEqual(least_sendings(sky), sendings)

    def test_a_sky_that_can_land(self):
        for sky in (make_sky(), make_sky((make_glider(),)), make_sky((make_glider(),) * 7, meadow=make_meadow(rings=8)),
                    make_sky((make_glider(),) * 2, fixed=(1, 0))):
            self.told(sky, [], [()])

    def test_one_that_can_not_land_at_all(self):
        late = make_glider(first=10, last=12)
        for gliders, stuck in (((late,), (0,)), ((late, make_glider()), (0,)), ((make_glider(), late), (1,))):
            self.told(make_sky(gliders, ahead=(0, 10)), [stuck], [stuck])
        self.told(make_sky((late, make_glider(), late), ahead=(0, 10)), [(0,), (2,)], [(0, 2)])

    def test_two_of_five_alike_can_land(self):
        threes = [lot for lot in lots_by_words(CROWDED) if len(lot) == 3]
        self.told(CROWDED, threes, threes)

    def test_lots_of_unlike_lengths(self):
        # Glider 4 can't land; of 0 and 1 but one can, at 10; of 1, 2, 3 but two, at 10 and 13.
        one, two = make_glider(first=10, last=11), make_glider(first=10, last=13)
        sky = make_sky((one, one, two, two, make_glider(first=2, last=2)), ahead=(0, 0), meadow=make_meadow(rings=8))
        self.told(sky, [(4,), (0, 1), (0, 2, 3), (1, 2, 3)], [(0, 1, 4), (0, 2, 4), (0, 3, 4), (1, 2, 4), (1, 3, 4)])

    def test_shorter_sendings_first_though_they_rise_less(self):
        gliders = (make_glider(first=10, last=10), make_glider(first=20, last=20), make_glider(first=5, last=20))
        sky = make_sky(gliders, meadow=make_meadow(gaps=((10,),)))
        self.told(sky, [(0, 1, 2)], [(0,), (1,), (2,)])
        sky = make_sky(gliders, meadow=make_meadow(gaps=((11,),)))
        self.told(sky, [(0, 1), (0, 2)], [(0,), (1, 2)])
        gliders = (make_glider(first=10, last=10), make_glider(first=20, last=20), make_glider(first=15, last=15))
        sky = make_sky(gliders, meadow=make_meadow(gaps=((9,),)))
        self.told(sky, [(0, 2), (1, 2)], [(2,), (0, 1)])

    def test_by_rings(self):
        self.told(make_sky((make_glider(),) * 3, meadow=make_meadow(rings=2)), [(0, 1, 2)], [(0,), (1,), (2,)])
        self.told(make_sky((make_glider(),) * 3, meadow=make_meadow(rings=0)), [(0,), (1,), (2,)], [(0, 1, 2)])

    def test_by_the_highest_ring(self):
        sky = make_sky((make_glider(), make_glider(ring=1), make_glider(), make_glider(ring=2)), fixed=(2, 0, 1, 3),
                       meadow=make_meadow(rings=4))
        self.told(sky, [(0, 1), (1, 2), (0, 2, 3)], [(0, 1), (0, 2), (1, 2), (1, 3)])

    def test_seven(self):
        sky = make_sky((make_glider(first=10, last=19),) * 7, meadow=make_meadow(rings=8))
        lots = lots_by_words(sky)
        self.told(sky, [lot for lot in lots if len(lot) == 5], [lot for lot in lots if len(lot) == 3])

    def test_against_all_lots(self):
        chance = random.Random(15)
        seen = collections.Counter()
        for turn in range(300):
            sky = a_crowded_sky(chance)
            lots = lots_by_words(sky)
            lands = {lot: lands_by_words(narrowed_by_words(sky, lot)) for lot in lots}
            others = {lot: tuple(g for g in range(len(sky[2])) if g not in lot) for lot in lots}
            stuck = least_by_words([lot for lot in lots if not lands[lot]])
            sendings = least_by_words([lot for lot in lots if lands[others[lot]]])
            self.told(sky, stuck, sendings)
            for lot in sendings:
                self.assertTrue(all(set(lot) & set(other) for other in stuck))
            for lot in lots:
                self.assertIs(not lands[lot], any(set(other) <= set(lot) for other in stuck))
            sharing = [lot for lot in lots if all(set(lot) & set(other) for other in stuck)]
            self.assertEqual(sendings, least_by_words(sharing))
            seen[(min(2, len(stuck)), len({len(lot) for lot in stuck}) > 1)] += 1
        self.assertEqual(len(seen), 4)
        self.assertGreater(min(seen.values()), 10, seen)


class LongerTest(unittest.TestCase):
    def told(self, sky, minutes):
        with self.subTest(sky=sky):
            self.assertTrue(is_sky(sky))
            self.assertEqual(longer(sky), minutes)
            if minutes is None:
                self.assertFalse(lands_by_words(later_by_words(sky, 20000)))
            else:
                self.assertTrue(lands_by_words(later_by_words(sky, minutes)))
                self.assertFalse(minutes > 0 and lands_by_words(later_by_words(sky, minutes - 1)))

    def test_0_where_all_can_land(self):
        for sky in (make_sky(), make_sky((make_glider(),)), make_sky((make_glider(first=10, last=10),)),
                    make_sky((make_glider(first=10, last=13),) * 2), make_sky((make_glider(),) * 2, fixed=(1, 0))):
            self.told(sky, 0)

    def test_one(self):
        for ahead, minutes in ((7, 0), (8, 1), (20, 13), (100, 93)):
            self.told(make_sky((make_glider(first=10, last=10),), ahead=(0, ahead)), minutes)

    def test_a_shut_stretch(self):
        for end, minutes in ((20, 0), (21, 1), (9999, 9979)):
            self.told(make_sky((make_glider(first=10, last=20),), meadow=make_meadow(shuts=((5, end),))), minutes)

    def test_the_best_order_counts(self):
        # 0 first: glider 1 is 3 too late; 1 first: glider 0 is 1 too late.
        gliders = (make_glider(first=10, last=12), make_glider(first=10, last=10))
        self.told(make_sky(gliders), 1)
        self.told(make_sky(gliders, fixed=(0,)), 3)

    def test_each_last_minute_is_later_by_the_same(self):
        self.told(make_sky((make_glider(first=10, last=10),) * 3), 6)
        self.told(make_sky((make_glider(first=10, last=10),) * 7, meadow=make_meadow(rings=8)), 18)

    def test_behind_9999(self):
        self.told(make_sky((make_glider(first=9999, last=9999),), ahead=(0, 9999)), 3)
        self.told(make_sky((make_glider(first=9999, last=9999),) * 2), 3)
        # All but two are fixed, so that there are few orders to go through.
        wide = make_meadow(rings=8, sink=0, gaps=((99,),))
        for minute, minutes in ((9999, 693), (2, 10690), (0, 10692)):
            gliders = (make_glider(first=minute, last=minute),) * 7
            self.told(make_sky(gliders, fixed=(6, 4, 2, 0, 1), ahead=(0, 9999), meadow=wide), minutes)
            self.assertEqual(longer(make_sky(gliders, ahead=(0, 9999), meadow=wide)), minutes)

    def test_none_where_too_many_wait_in_each_order(self):
        self.told(make_sky((make_glider(),) * 3, meadow=make_meadow(rings=2)), None)
        self.told(make_sky((make_glider(),), meadow=make_meadow(rings=0)), None)
        self.told(make_sky((make_glider(first=10, last=10),) * 3, meadow=make_meadow(rings=2)), None)
        # With rings enough it is but the minutes that are too few.
        self.told(make_sky((make_glider(first=10, last=10),) * 3, meadow=make_meadow(rings=3)), 6)

    def test_none_where_a_fixed_one_needs_a_higher_ring(self):
        for ring, minutes in ((1, None), (2, 3), (0, 3)):
            gliders = (make_glider(first=10, last=10), make_glider(first=10, last=10, ring=ring))
            self.told(make_sky(gliders, fixed=(0, 1)), minutes)

    def test_where_the_rings_leave_but_a_worse_order(self):
        # Both would wait at 20, and glider 0 must have left the one ring then, though glider 1 is in more haste.
        gliders = (make_glider(joins=0, first=22, last=40), make_glider(joins=20, first=23, last=23))
        self.told(make_sky(gliders, meadow=make_meadow(rings=1)), 2)
        self.told(make_sky(gliders, meadow=make_meadow(rings=2)), 0)

    def test_what_it_costs_changes_nothing(self):
        for weight, due in ((0, 0), (99, 0), (99, 9999)):
            self.told(make_sky((make_glider(first=10, last=10, weight=weight, due=due),) * 3), 6)

    def test_against_all_orders(self):
        chance = random.Random(16)
        seen = collections.Counter()
        for turn in range(300):
            sky = a_crowded_sky(chance)
            self.told(sky, self.longer_by_words(sky))
            seen[None if longer(sky) is None else longer(sky) > 0] += 1
            self.assertIs(longer(sky) == 0, can_land(sky, tuple(range(len(sky[2])))))
        self.assertEqual(len(seen), 3)
        self.assertGreater(min(seen.values()), 30, seen)

    def longer_by_words(self, sky):
        """Without last minutes, the order in which the one that misses its own by most misses it by least."""
        free = later_by_words(sky, 20000)
        ways = [soonest_by_words(free, order) for order in all_orders(free)]
        late = [max([0] + [minute - sky[2][g][3] for g, minute in landings]) for landings, causes in ways if not causes]
        return min(late, default=None)

    def test_seven_that_all_differ(self):
        chance = random.Random(17)
        gaps = tuple(tuple(chance.randint(20, 40) for b in range(4)) for a in range(4))
        gliders = tuple(make_glider(kind=chance.randrange(4), first=first, last=first + chance.randint(0, 40))
                        for first in (2, 9, 30, 31, 44, 50, 70))
        sky = make_sky(gliders, meadow=make_meadow(rings=8, gaps=gaps))
        minutes = longer(sky)
        self.assertGreater(minutes, 0)
        self.assertIsNotNone(least_last(later_by_words(sky, minutes)))
        self.assertIsNone(least_last(later_by_words(sky, minutes - 1)))


class NoSkyTest(unittest.TestCase):
    def test_no_sky_ahead_of_all_else(self):
        for sky in ANYTHING + (list(SKY), SKY[:3], replaced(SKY, (3,), (3, 4))):
            for ask in (least_stuck, least_sendings, longer):
                with self.assertRaises(NoSky):
                    ask(sky)
            for lot in NO_LOTS + ((), (0,)):
                for ask in (narrowed, can_land):
                    with self.assertRaises(NoSky):
                        ask(sky, lot)


class PointTwoTest(unittest.TestCase):
    def test_what_was_handed_in_is_the_same(self):
        for thing in NO_LOTS:
            for ask in (narrowed, can_land):
                before = copy.deepcopy(thing)
                with self.assertRaises(NoLot):
                    ask(SKY, thing)
                self.assertEqual(thing, before)

    def test_what_was_told_is_the_askers_own(self):
        for ask in (least_stuck, least_sendings):
            told = ask(CROWDED)
            kept = copy.deepcopy(told)
            self.assertGreater(len(kept), 1)
            told.clear()
            self.assertEqual(ask(CROWDED), kept)
            again = ask(CROWDED)
            again[0] = None
            again.reverse()
            self.assertEqual(ask(CROWDED), kept)

    def test_what_was_told_stays(self):
        told = (least_stuck(CROWDED), least_sendings(CROWDED), least_stuck(make_sky()), least_sendings(make_sky()))
        kept = copy.deepcopy(told)
        least_stuck(SKY)
        least_sendings(SKY)
        least_sendings(make_sky()).append((0,))
        least_stuck(make_sky()).append((0,))
        self.assertEqual(told, kept)
        self.assertEqual(least_sendings(make_sky()), [()])
        self.assertEqual(least_stuck(make_sky()), [])

    def test_the_same_question_has_the_same_answer(self):
        for turn in range(2):
            self.assertIs(can_land(CROWDED, (0, 1)), True)
            self.assertIs(can_land(CROWDED, (0, 1, 2)), False)
            self.assertEqual(longer(CROWDED), 9)
            self.assertEqual(narrowed(SKY, (1, 3)), (MEADOW, (1, 4), (GLIDERS[1], GLIDERS[3]), (1, 0)))


if __name__ == "__main__":
    unittest.main()
