import collections
import copy
import itertools
import random
import unittest

from downrings.errors import NoOrder, NoSky
from downrings.landings import keeps
from downrings.orders import soonest
from downrings.skies import is_sky
from tests.by_words import all_landings, all_orders, keeps_by_words, soonest_by_words
from tests.chance import a_free_sky, a_sky, an_order
from tests.samples import ANYTHING, BIG, make_glider, make_meadow, make_sky

# Two kinds; ahead of all a landing of kind 1 at minute 4; glider 2 lands first, then glider 0.
MEADOW = make_meadow(rings=4, sink=2, gaps=((3, 5), (6, 4)), shuts=((15, 20), (24, 25)))
GLIDERS = (
    make_glider(kind=0, joins=0, first=10, last=50),
    make_glider(kind=1, joins=5, first=12, last=80),
    make_glider(kind=1, joins=2, first=6, last=40, ring=2),
    make_glider(kind=0, joins=9, first=11, last=80),
)
SKY = make_sky(GLIDERS, fixed=(2, 0), ahead=(1, 4), meadow=MEADOW)


class SoonestTest(unittest.TestCase):
    def told(self, sky, order, told):
        with self.subTest(order=order, told=told):
            self.assertTrue(is_sky(sky))
            self.assertEqual(soonest(sky, order), told)
            self.assertIs(isinstance(told[1], list), told[0] == "lands")
            if told[0] == "lands":
                self.assertTrue(keeps_by_words(sky, told[1]))

    def test_no_gliders(self):
        self.told(make_sky(), (), ("lands", []))
        self.told(make_sky(ahead=(0, 9999)), (), ("lands", []))

    def test_one_lands_at_its_first_minute(self):
        for first in (2, 10, 100):
            self.told(make_sky((make_glider(first=first),)), (0,), ("lands", [(0, first)]))

    def test_one_behind_the_landing_ahead(self):
        one = (make_glider(first=10),)
        for minute, lands in ((0, 10), (7, 10), (8, 11), (9, 12), (40, 43), (97, 100)):
            self.told(make_sky(one, ahead=(0, minute)), (0,), ("lands", [(0, lands)]))

    def test_one_where_it_is_shut(self):
        for shuts, lands in ((((9, 10),), 10), (((10, 11),), 11), (((5, 30),), 30), (((5, 11), (12, 20)), 11),
                             (((11, 20),), 10), (((5, 30), (31, 40)), 30)):
            self.told(make_sky((make_glider(first=10),), meadow=make_meadow(shuts=shuts)), (0,), ("lands", [(0, lands)]))

    def test_shut_where_the_gap_ends(self):
        meadow = make_meadow(shuts=((12, 20), (22, 25)))
        self.told(make_sky((make_glider(),) * 3, meadow=meadow), (2, 0, 1), ("lands", [(2, 10), (0, 20), (1, 25)]))

    def test_gaps_by_the_kind_ahead_then_the_kind_behind(self):
        gaps = ((3, 5), (6, 4))
        for ahead, behind in itertools.product((0, 1), repeat=2):
            sky = make_sky((make_glider(kind=behind), make_glider(kind=ahead)), meadow=make_meadow(gaps=gaps))
            self.told(sky, (1, 0), ("lands", [(1, 10), (0, 10 + gaps[ahead][behind])]))
            one = make_sky((make_glider(kind=behind),), ahead=(ahead, 20), meadow=make_meadow(gaps=gaps))
            self.told(one, (0,), ("lands", [(0, 20 + gaps[ahead][behind])]))

    def test_all_together(self):
        # 4 and gap 6; 8 behind kind 1 is 14; then shut from 15 on, and from 24 on.
        self.told(SKY, (2, 0, 1, 3), ("lands", [(2, 8), (0, 14), (1, 20), (3, 26)]))
        self.told(SKY, (2, 0, 3, 1), ("lands", [(2, 8), (0, 14), (3, 20), (1, 25)]))

    def test_three_to_seven(self):
        for many in range(3, 8):
            sky = make_sky((make_glider(),) * many, meadow=make_meadow(rings=8))
            for order in (tuple(range(many)), tuple(range(many))[::-1], tuple(range(1, many)) + (0,)):
                self.told(sky, order, ("lands", [(g, 10 + 3 * at) for at, g in enumerate(order)]))

    def test_landings_may_come_behind_9999_where_they_are_stuck(self):
        sky = make_sky((make_glider(first=9999, last=9999),), ahead=(0, 9999))
        self.told(sky, (0,), ("stuck", 0))
        sky = make_sky((make_glider(first=10, last=9999),), ahead=(0, 9996))
        self.told(sky, (0,), ("lands", [(0, 9999)]))


class StuckTest(unittest.TestCase):
    def told(self, sky, order, place, cause=None):
        """Stuck at this place, there by this cause alone if one is told; at no place where that is None."""
        with self.subTest(sky=sky, order=order):
            self.assertTrue(is_sky(sky))
            told = soonest(sky, order)
            if place is None:
                self.assertEqual(told[0], "lands")
                self.assertTrue(keeps(sky, told[1]))
            else:
                self.assertEqual(told, ("stuck", place))
                if cause is not None:
                    self.assertEqual(soonest_by_words(sky, order)[1], [cause])

    def test_behind_its_last_minute(self):
        # In each place the glider there lands at 10, 13, 16; rings are enough for all.
        for place in range(3):
            for last, stuck in ((10 + 3 * place, None), (10 + 3 * place - 1, place)):
                gliders = [make_glider(), make_glider(), make_glider()]
                gliders[place] = make_glider(first=8, last=last)
                sky = make_sky(gliders, ahead=(0, 7))
                self.told(sky, (0, 1, 2), stuck, "last")

    def test_behind_its_last_minute_by_a_shut_stretch(self):
        for end, stuck in ((20, None), (21, 0)):
            sky = make_sky((make_glider(first=10, last=20),), meadow=make_meadow(shuts=((5, end),)))
            self.told(sky, (0,), stuck, "last")

    def test_leaves_behind_the_minute_at_which_one_too_many_joins(self):
        # One ring: who lands first must have left when the second one joins, the next when the third one does.
        for first, stuck in ((7, None), (8, 0)):
            gliders = (make_glider(joins=0, first=first), make_glider(joins=5, first=9), make_glider(joins=20, first=22))
            self.told(make_sky(gliders, meadow=make_meadow(rings=1)), (0, 1, 2), stuck, "leaving")
        for first, stuck in ((22, None), (23, 1)):
            gliders = (make_glider(joins=0, first=7), make_glider(joins=5, first=first), make_glider(joins=20, first=22))
            self.told(make_sky(gliders, meadow=make_meadow(rings=1)), (0, 1, 2), stuck, "leaving")

    def test_by_each_number_of_rings(self):
        # Seven join at 0, 10, .. 60; the first one leaves at `leaves`, the others behind it in a row.
        for rings in range(9):
            for behind in (0, 1):
                leaves = 10 * rings + behind
                gliders = [make_glider(joins=10 * g, first=max(10 * g, leaves) + 2, last=999) for g in range(7)]
                sky = make_sky(gliders, meadow=make_meadow(rings=rings, gaps=((1,),)))
                self.told(sky, tuple(range(7)), 0 if behind and rings < 7 else None, "leaving")

    def test_no_rings(self):
        for first, stuck in ((2, None), (3, 0)):
            self.told(make_sky((make_glider(joins=0, first=first),), meadow=make_meadow(rings=0)), (0,), stuck, "leaving")

    def test_it_goes_by_rising_minutes_of_joining_not_by_numbers_nor_by_landings(self):
        # Joining at 30, 0 and 12: with two rings the first to land must leave by 30.
        for order in ((1, 0, 2), (1, 2, 0), (2, 1, 0), (2, 0, 1)):
            for first, stuck in ((32, None), (33, 0)):
                gliders = (make_glider(joins=30, first=32), make_glider(joins=0, first=first),
                           make_glider(joins=12, first=first))
                self.told(make_sky(gliders, meadow=make_meadow(rings=2, gaps=((1,),))), order, stuck, "leaving")

    def test_so_many_are_not_there(self):
        # Two of two gliders may wait on two rings for ever, and so may the second one on one ring.
        self.told(make_sky((make_glider(first=90),) * 2, meadow=make_meadow(rings=2)), (0, 1), None)
        gliders = (make_glider(first=2), make_glider(joins=5, first=90))
        self.told(make_sky(gliders, meadow=make_meadow(rings=1)), (0, 1), None)
        self.told(make_sky(gliders, meadow=make_meadow(rings=1)), (1, 0), 0, "leaving")

    def test_needs_a_higher_ring(self):
        # Glider 1 joins at 5; where glider 0 leaves then it needs ring 1, a minute later ring 2.
        for first, ring, stuck in ((7, 1, None), (8, 1, 1), (8, 2, None), (8, 0, None)):
            gliders = (make_glider(first=first), make_glider(joins=5, first=20, ring=ring), make_glider())
            self.told(make_sky(gliders, fixed=(0, 1)), (0, 1, 2), stuck, "ring")

    def test_needs_a_higher_ring_than_its_own_by_one(self):
        for ring, stuck in ((1, 2), (2, 2), (3, None), (4, None)):
            gliders = (make_glider(), make_glider(), make_glider(ring=ring), make_glider())
            self.told(make_sky(gliders, fixed=(1, 0, 2), meadow=make_meadow(rings=4)), (1, 0, 2, 3), stuck, "ring")

    def test_needs_it_later_on(self):
        # Glider 1 is alone at first; glider 0 joins at 12 and lands sooner.
        for lands, stuck in ((14, None), (15, 1)):
            gliders = (make_glider(joins=12, first=lands), make_glider(joins=0, first=30, ring=1))
            self.told(make_sky(gliders, fixed=(0, 1)), (0, 1), stuck, "ring")

    def test_the_lesser_place_of_two(self):
        late = make_glider(first=8, last=9)
        self.told(make_sky((make_glider(), late, late)), (0, 1, 2), 1)
        self.told(make_sky((make_glider(), late, late)), (1, 0, 2), 2)
        self.told(make_sky((make_glider(), late, late)), (1, 2, 0), 1)
        # A ring too high at place 1, a last minute missed at place 2, and the other way round.
        high = make_glider(ring=1)
        self.told(make_sky((make_glider(), high, late), fixed=(0, 1, 2)), (0, 1, 2), 1)
        self.told(make_sky((make_glider(), late, high), fixed=(0, 1, 2)), (0, 1, 2), 1)
        # Leaving too late at place 0, all else amiss behind it.
        self.told(make_sky((make_glider(), high, late), fixed=(0, 1, 2), meadow=make_meadow(rings=1)), (0, 1, 2), 0)
        # A last minute missed at place 0, leaving too late at place 1.
        gliders = (make_glider(joins=0, first=2, last=2), make_glider(joins=0), make_glider(joins=9, first=20))
        sky = make_sky(gliders, ahead=(0, 1), meadow=make_meadow(rings=1))
        self.told(sky, (0, 1, 2), 0)


class ByWordsTest(unittest.TestCase):
    def held_against_the_words(self, sky, order, seen):
        landings, causes = soonest_by_words(sky, order)
        told = soonest(sky, order)
        if causes:
            self.assertEqual(told, ("stuck", len(landings)), (sky, order))
        else:
            self.assertEqual(told, ("lands", landings), (sky, order))
            self.assertTrue(keeps_by_words(sky, told[1]), (sky, order))
        seen[(len(order), tuple(causes))] += 1

    def test_none_to_seven_gliders(self):
        chance = random.Random(9)
        seen = collections.Counter()
        for turn in range(4000):
            sky = a_sky(chance, 7) if turn % 2 else a_free_sky(chance, chance.randint(0, 7))
            self.assertTrue(is_sky(sky), sky)
            self.held_against_the_words(sky, an_order(chance, sky), seen)
        for many in range(8):
            self.assertGreater(seen[(many, ())], 20, many)
        for cause in ("last", "leaving", "ring"):
            self.assertGreater(sum(n for (many, causes), n in seen.items() if causes == (cause,)), 100, cause)

    def test_all_landings_of_small_skies(self):
        chance = random.Random(4)
        seen = collections.Counter()
        for turn in range(250):
            meadow, ahead, gliders, fixed = a_sky(chance, 3)
            gliders = tuple(glider[:3] + (min(glider[3], glider[2] + 7),) + glider[4:] for glider in gliders)
            sky = (meadow, ahead, gliders, fixed)
            self.assertTrue(is_sky(sky))
            landings = all_landings(sky)
            for order in all_orders(sky):
                those = [one for one in landings if tuple(g for g, minute in one) == order]
                told = soonest(sky, order)
                seen[told[0]] += 1
                if told[0] == "stuck":
                    self.assertEqual(those, [], (sky, order))
                else:
                    self.assertIn(told[1], those)
                    for one in those:
                        self.assertTrue(all(a <= b for (g, a), (h, b) in zip(told[1], one)), (sky, order, one))
        self.assertGreater(min(seen.values()), 100, seen)


NO_ORDERS = (
    (), (2,), (2, 0), (2, 0, 1), (2, 0, 3), (2, 0, 1, 1), (2, 0, 0, 1), (2, 2, 0, 1), (2, 0, 1, 3, 3), (2, 0, 1, 3, 4),
    (2, 0, 1, 4), (2, 0, 1, -1), (2, 0, -3, 3), (2, 0, 1, BIG), (2, 0, 1, -BIG), (2, 0, True, 3), (2, False, 1, 3),
    (2, 0, None, 3), (2, 0, "1", 3), (2, 0, (1,), 3), (2, 0, [1], 3), (2, 0, {}, 3), [2, 0, 1, 3], {2: 0, 0: 0, 1: 0, 3: 0},
    "2013", ((2, 0, 1, 3),), (0, 2, 1, 3), (0, 1, 2, 3), (2, 1, 0, 3), (1, 2, 0, 3), (1, 3, 2, 0), (2, 3, 1, 0),
    ((2, 0), (1, 3)), [(2, 8), (0, 14), (1, 20), (3, 26)],
)


class NoOrderTest(unittest.TestCase):
    def test_what_is_no_order(self):
        self.assertEqual(soonest(SKY, (2, 0, 1, 3))[0], "lands")
        self.assertEqual(soonest(SKY, (2, 0, 3, 1))[0], "lands")
        for thing in NO_ORDERS + ANYTHING:
            with self.subTest(thing=str(thing)[:200]):
                with self.assertRaises(NoOrder):
                    soonest(SKY, thing)

    def test_what_is_no_order_of_no_gliders(self):
        for thing in ANYTHING:
            if thing != ():
                with self.subTest(thing=str(thing)[:200]):
                    with self.assertRaises(NoOrder):
                        soonest(make_sky(), thing)

    def test_truths_for_the_numbers_of_one_or_two(self):
        one, two = make_sky((make_glider(),)), make_sky((make_glider(),) * 2)
        for sky, thing in ((one, (False,)), (two, (False, True)), (two, (0, True)), (two, (False, 1)), (two, (True, 0))):
            with self.assertRaises(NoOrder):
                soonest(sky, thing)

    def test_truths_for_fixed_ones(self):
        sky = make_sky((make_glider(),) * 2, fixed=(1, 0))
        for thing in ((True, False), (True, 0), (1, False), (0, 1)):
            with self.assertRaises(NoOrder):
                soonest(sky, thing)
        self.assertEqual(soonest(sky, (1, 0)), ("lands", [(1, 10), (0, 13)]))

    def test_no_order_of_a_sky_in_which_none_can_land(self):
        stuck = make_sky((make_glider(),), meadow=make_meadow(rings=0))
        self.assertEqual(soonest(stuck, (0,)), ("stuck", 0))
        for thing in ((), (1,), [0], (0, 0)):
            with self.assertRaises(NoOrder):
                soonest(stuck, thing)

    def test_no_sky_whatever_the_order(self):
        for order in NO_ORDERS + ((2, 0, 1, 3),):
            for sky in (None, SKY[:3], list(SKY), SKY[:3] + ((0,),), SKY[:1] + ((2, 4),) + SKY[2:]):
                with self.assertRaises(NoSky):
                    soonest(sky, order)


class PointTwoTest(unittest.TestCase):
    def test_what_was_handed_in_is_the_same(self):
        for thing in NO_ORDERS:
            before = copy.deepcopy(thing)
            with self.assertRaises(NoOrder):
                soonest(SKY, thing)
            self.assertEqual(thing, before)

    def test_what_was_told_is_the_askers_own(self):
        told = soonest(SKY, (2, 0, 1, 3))
        kept = copy.deepcopy(told)
        told[1].clear()
        self.assertEqual(soonest(SKY, (2, 0, 1, 3)), kept)
        again = soonest(SKY, (2, 0, 1, 3))
        again[1].append((9, 9))
        again[1][0] = None
        self.assertEqual(soonest(SKY, (2, 0, 1, 3)), kept)

    def test_told_landings_stay_whatever_is_asked_later(self):
        told = soonest(SKY, (2, 0, 1, 3))
        kept = copy.deepcopy(told)
        soonest(SKY, (2, 0, 3, 1))
        soonest(make_sky((make_glider(),) * 7), (6, 5, 4, 3, 2, 1, 0))
        self.assertEqual(told, kept)


if __name__ == "__main__":
    unittest.main()
