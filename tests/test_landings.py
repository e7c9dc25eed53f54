import collections
import copy
import itertools
import random
import unittest

from downrings.errors import NoLandings
from downrings.landings import amiss, cost_of, keeps, last_of
from downrings.skies import is_sky
from tests.by_words import amiss_by_words, keeps_by_words
from tests.chance import a_sky
from tests.samples import ANYTHING, BIG, make_glider, make_meadow, make_sky

# Two kinds; ahead of all a landing of kind 1 at minute 4; glider 2 lands first, then glider 0.
MEADOW = make_meadow(rings=3, sink=2, gaps=((3, 5), (6, 4)), shuts=((30, 40), (60, 70)))
GLIDERS = (
    make_glider(kind=0, joins=0, first=10, last=50, due=20, weight=3),
    make_glider(kind=1, joins=5, first=12, last=80, due=45, weight=10),
    make_glider(kind=1, joins=2, first=6, last=40, due=5, weight=0, ring=2),
)
SKY = make_sky(GLIDERS, fixed=(2, 0), ahead=(1, 4), meadow=MEADOW)
GOOD = [(2, 8), (0, 14), (1, 19)]

# Nothing of which is a list of at most twenty tuples of two whole numbers.
NO_PAIRS = tuple(thing for thing in ANYTHING if thing not in ([], [(0, 0)])) + (
    tuple(GOOD), [list(pair) for pair in GOOD], {pair: 0 for pair in GOOD}, dict(GOOD), [(0, 0)] * 21, [(9, 9)] * 21,
    [(0, True)], [(False, 8)], [(0, None)], [("0", 8)], [(0, "8")], [(0,)], [(0, 8, 8)], [()], [None], ["ab"], [0, 8],
    [(0, 8), None], [(0, 8), [0, 8]], [(0, (8,))], [((0,), 8)], [{0: 8, 1: 9}], [[(0, 8)]], GOOD + [(0, True)],
    [(2, 8), (False, 14), (True, 19)], [(2, 8), (False, 14), (1, 19)], [(2, 8), (0, 14), (True, 19)],
)


class AmissTest(unittest.TestCase):
    def told(self, sky, landings, told):
        with self.subTest(landings=landings):
            self.assertTrue(is_sky(sky))
            self.assertEqual(amiss(sky, landings), told)
            self.assertIs(keeps(sky, landings), told is None)

    def test_nothing(self):
        self.told(SKY, GOOD, None)
        self.told(SKY, [(2, 40), (0, 46), (1, 80)], None)
        self.told(make_sky(), [], None)
        self.told(make_sky(ahead=(0, 9999)), [], None)

    def test_none(self):
        for number in (3, -1, -3, 7, BIG, -BIG):
            self.told(SKY, [(number, 8)], ("none", number))
            self.told(SKY, GOOD + [(number, 24)], ("none", number))
            self.told(SKY, [(2, 8), (number, 14), (0, 14), (1, 19)], ("none", number))
        self.told(make_sky(), [(0, 0)], ("none", 0))

    def test_twice(self):
        self.told(SKY, GOOD + [(1, 23)], ("twice", 1))
        self.told(SKY, GOOD + [(2, 23)], ("twice", 2))
        self.told(SKY, [(2, 8), (2, 14)], ("twice", 2))
        self.told(SKY, [(2, 8), (0, 14), (0, 17), (1, 22)], ("twice", 0))

    def test_order(self):
        self.told(SKY, [(0, 14), (2, 20), (1, 25)], ("order", 0))
        self.told(SKY, [(1, 14), (2, 20), (0, 25)], ("order", 1))
        self.told(SKY, [(2, 8), (1, 14), (0, 22)], ("order", 1))
        free = make_sky(GLIDERS[:2], meadow=MEADOW)
        self.told(free, [(0, 14), (1, 19)], None)
        self.told(free, [(1, 14), (0, 20)], None)

    def test_soon(self):
        one = make_sky((make_glider(first=10, last=20),))
        for minute in (9, 0, -1, -BIG):
            self.told(one, [(0, minute)], ("soon", 0))
        self.told(one, [(0, 10)], None)
        self.told(SKY, [(2, 5)], ("soon", 2))

    def test_late(self):
        one = make_sky((make_glider(first=10, last=20),))
        for minute in (21, 10000, BIG):
            self.told(one, [(0, minute)], ("late", 0))
        self.told(one, [(0, 20)], None)
        self.told(SKY, [(2, 8), (0, 51), (1, 56)], ("late", 0))

    def test_shut(self):
        for minute, word in ((29, None), (30, "shut"), (39, "shut"), (40, None), (59, None), (60, "shut"),
                             (69, "shut"), (70, None)):
            self.told(SKY, [(2, 8), (0, 14), (1, minute)], None if word is None else (word, 1))

    def test_gap(self):
        self.told(SKY, [(2, 7), (0, 14), (1, 19)], ("gap", 2))
        self.told(SKY, [(2, 8), (0, 13), (1, 19)], ("gap", 0))
        self.told(SKY, [(2, 8), (0, 14), (1, 18)], ("gap", 1))
        self.told(SKY, [(2, 8), (0, 14), (1, 14)], ("gap", 1))
        # Out of the order of minutes.
        self.told(SKY, [(2, 20), (0, 14), (1, 31)], ("gap", 0))

    def test_gap_goes_by_the_kind_ahead_then_the_kind_behind(self):
        gaps = ((3, 5), (6, 4))
        for ahead, behind in itertools.product((0, 1), repeat=2):
            gliders = (make_glider(kind=ahead), make_glider(kind=behind))
            two = make_sky(gliders, meadow=make_meadow(gaps=gaps))
            one = make_sky(gliders[1:], ahead=(ahead, 20), meadow=make_meadow(gaps=gaps))
            least = 20 + gaps[ahead][behind]
            self.told(two, [(0, 20), (1, least)], None)
            self.told(two, [(0, 20), (1, least - 1)], ("gap", 1))
            self.told(one, [(0, least)], None)
            self.told(one, [(0, least - 1)], ("gap", 0))

    def test_no_landing_ahead(self):
        free = make_sky(GLIDERS, fixed=(2, 0), meadow=MEADOW)
        self.told(free, [(2, 6), (0, 12), (1, 17)], None)

    def test_lacks(self):
        self.told(SKY, [], ("lacks", 0))
        self.told(SKY, [(2, 8)], ("lacks", 0))
        self.told(SKY, [(2, 8), (0, 14)], ("lacks", 1))
        self.told(make_sky(GLIDERS[:2], meadow=MEADOW), [(1, 14)], ("lacks", 0))

    def test_rings(self):
        # Each waits from its joining on ahead of its leaving, two minutes ahead of its landing.
        gliders = [make_glider(joins=joins, first=joins + 2, last=99) for joins in (0, 4, 6, 7)]
        for rings, told in ((4, None), (3, None), (2, ("rings", 7)), (1, ("rings", 4)), (0, ("rings", 0))):
            self.told(make_sky(gliders, meadow=make_meadow(rings=rings)), [(0, 8), (1, 11), (2, 14), (3, 17)], told)
        # The first one left at 6, just when the third one joins; a minute later it still waits then.
        for minute, told in ((8, ("rings", 7)), (9, ("rings", 6))):
            sky = make_sky(gliders, meadow=make_meadow(rings=2))
            self.told(sky, [(0, minute), (1, 12), (2, 15), (3, 18)], told)
        sky = make_sky(gliders[:3], meadow=make_meadow(rings=2))
        self.told(sky, [(0, 8), (1, 12), (2, 15)], None)

    def test_rings_where_the_first_to_land_joins_last(self):
        gliders = [make_glider(joins=joins, first=joins + 2, last=99) for joins in (20, 9, 0)]
        landings = [(0, 30), (1, 33), (2, 36)]
        for rings, told in ((3, None), (2, ("rings", 20)), (1, ("rings", 9)), (0, ("rings", 0))):
            self.told(make_sky(gliders, meadow=make_meadow(rings=rings)), landings, told)

    def test_no_rings(self):
        none = make_meadow(rings=0)
        gliders = [make_glider(joins=joins, first=joins + 2) for joins in (8, 11)]
        self.told(make_sky(gliders, meadow=none), [(0, 10), (1, 13)], None)
        self.told(make_sky(gliders, meadow=none), [(0, 10), (1, 14)], ("rings", 11))
        self.told(make_sky(gliders, meadow=none), [(0, 11), (1, 14)], ("rings", 8))

    def test_ring(self):
        # All three wait from minute 0 on, so the rings needed are 1, 2 and 3.
        for highest in itertools.product((0, 1, 2, 3), repeat=3):
            gliders = [make_glider(ring=ring) for ring in highest]
            high = [g for g in range(3) if 0 < highest[g] < g + 1]
            sky = make_sky(gliders, fixed=(0, 1, 2))
            self.told(sky, [(0, 20), (1, 23), (2, 26)], ("ring", high[0]) if high else None)

    def test_ring_goes_by_landings_not_by_numbers(self):
        gliders = [make_glider(ring=1), make_glider(ring=1), make_glider()]
        self.told(make_sky(gliders, fixed=(2, 1, 0)), [(2, 20), (1, 23), (0, 26)], ("ring", 1))

    def test_ring_by_a_later_minute(self):
        # Glider 1 is alone at first; only at minute 12 one joins that lands sooner.
        for joins, lands, told in ((12, 20, ("ring", 1)), (12, 15, ("ring", 1)), (12, 14, None)):
            gliders = [make_glider(joins=joins, first=joins + 2), make_glider(joins=0, ring=1)]
            self.told(make_sky(gliders, fixed=(0, 1)), [(0, lands), (1, 30)], told)
        for ring, told in ((2, None), (3, None)):
            gliders = [make_glider(joins=12, first=14), make_glider(joins=0, ring=ring)]
            self.told(make_sky(gliders, fixed=(0, 1)), [(0, 20), (1, 30)], told)

    def test_ring_counts_only_while_it_waits(self):
        # Glider 0 has left at 5, just when glider 1 joins; a minute later it is in its way.
        gliders = [make_glider(first=6), make_glider(joins=5, first=7, ring=1)]
        self.told(make_sky(gliders, fixed=(0, 1)), [(0, 7), (1, 20)], None)
        self.told(make_sky(gliders, fixed=(0, 1)), [(0, 8), (1, 20)], ("ring", 1))
        # One that waits at no minute needs no ring, whoever waits.
        gliders = [make_glider(first=6, ring=1), make_glider(joins=9, first=11, ring=1)]
        self.told(make_sky(gliders, fixed=(0, 1)), [(0, 8), (1, 11)], None)

    def test_ring_heeds_no_one_that_lands_later(self):
        gliders = [make_glider(joins=5, ring=1), make_glider(joins=0), make_glider(joins=1)]
        self.told(make_sky(gliders, fixed=(0,)), [(0, 20), (1, 23), (2, 26)], None)

    def test_which_goes_first_in_one_landing(self):
        # Minutes too soon and too late are shut too, and those ahead of 43 break the gap as well.
        gliders = (make_glider(first=10, last=50), make_glider(first=10, last=50))
        meadow = make_meadow(shuts=((5, 9), (20, 30), (60, 70)))
        sky = make_sky(gliders, fixed=(0, 1), ahead=(0, 40), meadow=meadow)
        self.told(sky, [(2, 5)], ("none", 2))
        self.told(sky, [(0, 45), (0, 5)], ("twice", 0))
        self.told(sky, [(1, 5)], ("order", 1))
        self.told(sky, [(1, 65)], ("order", 1))
        self.told(sky, [(0, 5)], ("soon", 0))
        self.told(sky, [(0, 65)], ("late", 0))
        self.told(sky, [(0, 20)], ("shut", 0))
        self.told(sky, [(0, 41)], ("gap", 0))
        self.told(sky, [(0, 43)], ("lacks", 1))

    def test_one_landing_is_looked_at_behind_the_other(self):
        self.told(SKY, [(2, 7), (9, 0)], ("gap", 2))
        self.told(SKY, [(2, 41), (9, 0)], ("late", 2))
        self.told(SKY, [(0, 14), (9, 0)], ("order", 0))
        self.told(SKY, [(2, 8), (0, 30), (0, 30), (9, 9)], ("shut", 0))
        self.told(SKY, GOOD + [(9, 9), (1, 19)], ("none", 9))
        self.told(SKY, GOOD + [(1, 19), (9, 9)], ("twice", 1))

    def test_what_is_looked_at_behind_all_landings(self):
        # Too few rings, too low a ring, and one that lacks: the landings go first, then these in their order.
        gliders = (make_glider(), make_glider(ring=1), make_glider())
        one = make_sky(gliders, fixed=(0, 1), meadow=make_meadow(rings=1))
        self.told(one, [(0, 20), (1, 22)], ("gap", 1))
        self.told(one, [(0, 20), (1, 23)], ("lacks", 2))
        self.told(one, [(0, 20), (1, 23), (2, 26)], ("rings", 0))
        three = make_sky(gliders, fixed=(0, 1), meadow=make_meadow(rings=3))
        self.told(three, [(0, 20), (1, 23), (2, 26)], ("ring", 1))
        self.told(three, [(0, 20), (1, 23)], ("lacks", 2))
        later = make_sky((make_glider(joins=9, first=20), make_glider(ring=1)), fixed=(0, 1),
                         meadow=make_meadow(rings=1))
        self.told(later, [(0, 20), (1, 23)], ("rings", 9))

    def test_lists_of_twenty(self):
        self.told(SKY, [(9, 9)] * 20, ("none", 9))
        self.told(SKY, GOOD + [(1, 23)] * 17, ("twice", 1))
        self.told(SKY, [(-BIG, BIG)] * 20, ("none", -BIG))

    def test_no_landings(self):
        for thing in NO_PAIRS:
            with self.subTest(thing=str(thing)[:200]):
                with self.assertRaises(NoLandings):
                    amiss(SKY, thing)

    def test_no_landings_of_twenty_one_even_where_all_are_right(self):
        with self.assertRaises(NoLandings):
            amiss(SKY, GOOD + [(1, 23)] * 18)


class KeepsTest(unittest.TestCase):
    def test_of_anything(self):
        self.assertIs(keeps(SKY, GOOD), True)
        for thing in NO_PAIRS + ([],):
            with self.subTest(thing=str(thing)[:200]):
                self.assertIs(keeps(SKY, thing), False)

    def test_of_anything_without_gliders(self):
        self.assertIs(keeps(make_sky(), []), True)
        for thing in NO_PAIRS:
            with self.subTest(thing=str(thing)[:200]):
                self.assertIs(keeps(make_sky(), thing), False)

    def test_seven_gliders(self):
        sky = make_sky((make_glider(first=2),) * 7, meadow=make_meadow(rings=8))
        landings = [(g, 20 + 3 * at) for at, g in enumerate((3, 1, 4, 0, 5, 2, 6))]
        self.assertIs(keeps(sky, landings), True)
        self.assertIs(keeps(sky, landings[1:]), False)
        self.assertIs(keeps(sky, landings[::-1]), False)
        self.assertIs(keeps(make_sky(sky[2], meadow=make_meadow(rings=6)), landings), False)


class ByWordsTest(unittest.TestCase):
    """Many small skies, against the points' words taken minute by minute."""

    def some_landings(self, chance, sky):
        """Nearly right ones: in an order, each some minutes behind the soonest, now and then spoilt."""
        (rings, sink, gaps, shuts), ahead, gliders, fixed = sky
        free = [g for g in range(len(gliders)) if g not in fixed]
        chance.shuffle(free)
        told, before = [], ahead
        for g in list(fixed) + free:
            minute = gliders[g][2]
            if before is not None:
                minute = max(minute, before[1] + gaps[before[0]][gliders[g][0]])
            for begin, end in shuts:
                minute = end if begin <= minute < end else minute
            minute += chance.choice((0, 0, 0, 0, 0, 1, 2, 5, 9, -1))
            before = (gliders[g][0], minute)
            told.append((g, minute))
        spoil = chance.randrange(14)
        if spoil == 0 and told:
            told.pop(chance.randrange(len(told)))
        if spoil == 1:
            chance.shuffle(told)
        if spoil == 2:
            told.append((chance.randint(-1, 5), chance.randint(0, 30)))
        return told

    def test_against_the_words(self):
        chance = random.Random(20)
        seen = collections.Counter()
        for turn in range(12000):
            sky = a_sky(chance)
            self.assertTrue(is_sky(sky), sky)
            landings = self.some_landings(chance, sky)
            told = amiss(sky, landings)
            self.assertEqual(told, amiss_by_words(sky, landings), (sky, landings))
            self.assertIs(keeps(sky, landings), keeps_by_words(sky, landings), (sky, landings))
            self.assertIs(keeps(sky, landings), told is None)
            seen[told[0] if told else None] += 1
        self.assertEqual(len(seen), 11)
        self.assertGreater(min(seen.values()), 20, seen)

    def test_all_landings_of_a_small_sky(self):
        gliders = ((0, 0, 1, 6, 0, 0, 0), (1, 1, 2, 6, 0, 0, 1), (0, 2, 4, 7, 0, 0, 0))
        for fixed, ahead in (((1,), None), ((0, 1), (1, 0)), ((2, 1), None)):
            sky = ((2, 1, ((1, 2), (1, 1)), ((3, 4),)), ahead, gliders, fixed)
            self.assertTrue(is_sky(sky))
            for order in itertools.product(range(3), repeat=3):
                for minutes in itertools.product(range(9), repeat=3):
                    landings = list(zip(order, minutes))
                    told = amiss(sky, landings)
                    self.assertEqual(told, amiss_by_words(sky, landings), (sky, landings))
                    self.assertIs(told is None, keeps_by_words(sky, landings), (sky, landings))


class LastAndCostTest(unittest.TestCase):
    def test_no_gliders(self):
        for sky in (make_sky(), make_sky(ahead=(0, 50))):
            self.assertEqual(last_of(sky, []), 0)
            self.assertEqual(cost_of(sky, []), 0)

    def test_last(self):
        self.assertEqual(last_of(SKY, GOOD), 19)
        self.assertEqual(last_of(SKY, [(2, 8), (0, 14), (1, 80)]), 80)
        self.assertEqual(last_of(make_sky((make_glider(joins=0, first=2),)), [(0, 2)]), 2)

    def test_cost_ahead_of_at_and_behind_the_due_minute(self):
        for weight in (0, 1, 7, 99):
            sky = make_sky((make_glider(due=20, weight=weight),))
            for minute, behind in ((10, 0), (19, 0), (20, 0), (21, 1), (35, 15), (100, 80)):
                self.assertEqual(cost_of(sky, [(0, minute)]), weight * behind)

    def test_cost_of_several(self):
        # Glider 2 is late, but of weight 0; the others have not come to their due minutes.
        self.assertEqual(cost_of(SKY, GOOD), 0)
        # Glider 0: 3 times 26; glider 1: 10 times 7.
        self.assertEqual(cost_of(SKY, [(2, 40), (0, 46), (1, 52)]), 148)
        # Being ahead of its due minute makes up for nothing.
        self.assertEqual(cost_of(SKY, [(2, 8), (0, 22), (1, 29)]), 6)

    def test_no_landings(self):
        broken = ([], GOOD[:2], GOOD[::-1], GOOD + [(1, 23)], [(2, 7), (0, 14), (1, 19)], [(2, 8), (0, 14), (1, 30)],
                  [(2, 8), (0, 14), (1, 81)], [(9, 9)], [(9, 9)] * 20)
        for thing in NO_PAIRS + broken:
            for ask in (last_of, cost_of):
                with self.subTest(thing=str(thing)[:200]):
                    with self.assertRaises(NoLandings):
                        ask(SKY, thing)

    def test_no_landings_where_the_rings_are_broken(self):
        crowded = make_sky((make_glider(),) * 2, meadow=make_meadow(rings=1))
        low = make_sky((make_glider(), make_glider(ring=1)), fixed=(0, 1))
        for sky in (crowded, low):
            for ask in (last_of, cost_of):
                with self.assertRaises(NoLandings):
                    ask(sky, [(0, 20), (1, 23)])


class PointTwoTest(unittest.TestCase):
    def test_nothing_is_changed_and_answers_stay(self):
        for thing in (GOOD, GOOD[::-1], [], [(9, 9)] * 20):
            for ask in (keeps, amiss):
                sky_before, before = copy.deepcopy(SKY), copy.deepcopy(thing)
                self.assertEqual(ask(SKY, thing), ask(SKY, thing))
                self.assertEqual((SKY, thing), (sky_before, before))
        for ask in (last_of, cost_of):
            before = copy.deepcopy(GOOD)
            self.assertEqual(ask(SKY, GOOD), ask(SKY, GOOD))
            self.assertEqual(GOOD, before)

    def test_nothing_is_changed_where_it_is_refused(self):
        for thing in NO_PAIRS:
            before = copy.deepcopy(thing)
            self.assertIs(keeps(SKY, thing), keeps(SKY, thing))
            for ask in (amiss, last_of, cost_of):
                with self.assertRaises(NoLandings):
                    ask(SKY, thing)
            self.assertEqual(thing, before)

    def test_nothing_hangs_on_what_was_handed_in(self):
        landings = list(GOOD)
        self.assertIsNone(amiss(SKY, landings))
        landings.pop()
        self.assertEqual(amiss(SKY, landings), ("lacks", 1))
        landings.append((1, 19))
        self.assertIsNone(amiss(SKY, landings))
        self.assertEqual(last_of(SKY, landings), 19)


if __name__ == "__main__":
    unittest.main()
