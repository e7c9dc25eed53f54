import collections
import random
import unittest

from downrings.best import least_cost, least_last
from downrings.errors import NoSky
from downrings.landings import cost_of, last_of
from downrings.orders import soonest
from downrings.skies import is_sky
from tests.by_words import all_landings, all_orders, best_by_words, cost_by_words, last_by_words
from tests.chance import a_free_sky, a_sky
from tests.samples import ANYTHING, make_glider, make_meadow, make_sky


class BestTest(unittest.TestCase):
    def told(self, sky, last, cost):
        with self.subTest(sky=sky):
            self.assertTrue(is_sky(sky))
            self.assertEqual(least_last(sky), last)
            self.assertEqual(least_cost(sky), cost)

    def test_no_gliders(self):
        for sky in (make_sky(), make_sky(ahead=(0, 50)), make_sky(meadow=make_meadow(rings=0, shuts=((0, 9999),)))):
            self.told(sky, ("order", 0, ()), ("order", 0, ()))

    def test_one(self):
        sky = make_sky((make_glider(first=10, due=4, weight=7),))
        self.told(sky, ("order", 10, (0,)), ("order", 42, (0,)))
        self.told(make_sky(sky[2], ahead=(0, 9)), ("order", 12, (0,)), ("order", 56, (0,)))
        self.told(make_sky((make_glider(first=2, due=0),), meadow=make_meadow(sink=0)), ("order", 2, (0,)),
                  ("order", 2, (0,)))
        nought = make_sky((make_glider(first=0, due=0),), meadow=make_meadow(sink=0))
        self.told(nought, ("order", 0, (0,)), ("order", 0, (0,)))

    def test_the_two_aims_go_apart(self):
        # By gaps it is best to land kind 1 first; by cost glider 0 is.
        meadow = make_meadow(gaps=((3, 9), (4, 3)))
        gliders = (make_glider(kind=0, due=10, weight=50), make_glider(kind=1, due=10, weight=1))
        self.told(make_sky(gliders, meadow=meadow), ("order", 14, (1, 0)), ("order", 9, (0, 1)))

    def test_the_order_is_the_first_of_that_number_not_of_another(self):
        # The last glider can't land till 90, so the others' order is free, but it must stand last.
        gliders = (make_glider(first=90, last=90), make_glider(), make_glider())
        self.told(make_sky(gliders), ("order", 90, (1, 2, 0)), ("order", 70, (1, 2, 0)))

    def test_all_alike(self):
        for many in range(1, 8):
            sky = make_sky((make_glider(first=10, due=10, weight=2),) * many, meadow=make_meadow(rings=8))
            order = tuple(range(many))
            self.told(sky, ("order", 10 + 3 * (many - 1), order), ("order", 6 * sum(range(many)), order))

    def test_weights_of_0(self):
        # All orders cost nothing, so the first one that isn't stuck is told.
        gliders = (make_glider(first=20, last=90, weight=0, due=0), make_glider(first=10, last=20, weight=0, due=0),
                   make_glider(first=30, last=90, weight=0, due=0))
        self.told(make_sky(gliders), ("order", 30, (1, 0, 2)), ("order", 0, (1, 0, 2)))
        gliders = (gliders[0], gliders[2], gliders[0])
        self.told(make_sky(gliders), ("order", 30, (0, 2, 1)), ("order", 0, (0, 1, 2)))

    def test_one_of_weight_0_among_others(self):
        gliders = (make_glider(weight=0, due=0), make_glider(weight=1, due=10), make_glider(weight=5, due=10))
        self.told(make_sky(gliders), ("order", 16, (0, 1, 2)), ("order", 3, (2, 1, 0)))

    def test_some_fixed(self):
        gliders = (make_glider(due=0, weight=9), make_glider(due=0, weight=1), make_glider(due=0, weight=5),
                   make_glider(due=0, weight=2))
        sky = make_sky(gliders, fixed=(3, 1), meadow=make_meadow(rings=8))
        self.told(sky, ("order", 19, (3, 1, 0, 2)), ("order", 20 + 13 + 9 * 16 + 5 * 19, (3, 1, 0, 2)))
        sky = make_sky(gliders, fixed=(2,), meadow=make_meadow(rings=8))
        self.told(sky, ("order", 19, (2, 0, 1, 3)), ("order", 50 + 9 * 13 + 2 * 16 + 19, (2, 0, 3, 1)))

    def test_all_fixed(self):
        gliders = (make_glider(due=0, weight=9), make_glider(due=0, weight=1, ring=2), make_glider(due=0, weight=5))
        self.told(make_sky(gliders, fixed=(2, 1, 0)), ("order", 16, (2, 1, 0)), ("order", 50 + 13 + 144, (2, 1, 0)))

    def test_the_last_landing_of_the_fixed_ones_counts_where_no_others_come(self):
        sky = make_sky((make_glider(first=50),), fixed=(0,))
        self.told(sky, ("order", 50, (0,)), ("order", 30, (0,)))

    def test_none_where_all_are_stuck(self):
        for sky in (
            make_sky((make_glider(first=10, last=12),), ahead=(0, 10)),
            make_sky((make_glider(first=10, last=12),) * 2),
            make_sky((make_glider(),) * 3, meadow=make_meadow(rings=1)),
            make_sky((make_glider(),), meadow=make_meadow(rings=0)),
            make_sky((make_glider(), make_glider(ring=1)), fixed=(0, 1)),
            make_sky((make_glider(), make_glider(ring=1), make_glider()), fixed=(0, 1)),
            make_sky((make_glider(first=10, last=20),), meadow=make_meadow(shuts=((10, 21),))),
        ):
            self.told(sky, None, None)

    def test_what_is_stuck_in_all_orders_but_one(self):
        gliders = tuple(make_glider(first=2, last=last) for last in (14, 8, 2, 17, 11, 5, 20))
        order = (2, 5, 1, 4, 0, 3, 6)
        sky = make_sky(gliders, meadow=make_meadow(rings=8))
        self.told(sky, ("order", 20, order), ("order", 0, order))
        for glider in range(7):
            tight = tuple(g[:3] + (g[3] - (at == glider and g[3] > 2),) + g[4:] for at, g in enumerate(gliders))
            told = None if glider != 2 else ("order", 20, order)
            self.assertEqual(least_last(make_sky(tight, meadow=make_meadow(rings=8))), told)


class ByWordsTest(unittest.TestCase):
    def held_against_all_orders(self, sky):
        self.assertTrue(is_sky(sky), sky)
        last = least_last(sky)
        self.assertEqual(last, best_by_words(sky, last_by_words), sky)
        self.assertEqual(least_cost(sky), best_by_words(sky, cost_by_words), sky)
        return last is not None

    def test_all_orders_of_none_to_five(self):
        chance = random.Random(10)
        seen = collections.Counter()
        for turn in range(900):
            sky = a_free_sky(chance, chance.randint(0, 5)) if turn % 2 else a_sky(chance, 5)
            seen[(len(sky[2]), self.held_against_all_orders(sky))] += 1
        for many in range(1, 6):
            for lands in (True, False):
                self.assertGreater(seen[(many, lands)], 5, seen)

    def test_all_orders_of_six_and_seven(self):
        chance = random.Random(7)
        for many in (6, 6, 6, 7):
            self.held_against_all_orders(a_free_sky(chance, many))

    def test_all_orders_of_seven_that_all_differ(self):
        chance = random.Random(77)
        for turn in range(2):
            gaps = tuple(tuple(chance.randint(20, 40) for b in range(4)) for a in range(4))
            gliders = tuple(make_glider(kind=chance.randrange(4), joins=0, first=chance.randint(2, 60), last=9999,
                                        due=chance.randint(0, 150), weight=chance.randint(1, 99)) for g in range(7))
            sky = make_sky(gliders, meadow=make_meadow(rings=8, gaps=gaps))
            self.assertTrue(is_sky(sky))
            ways = [(order, soonest(sky, order)[1]) for order in all_orders(sky)]
            self.assertEqual(len(ways), 5040)
            for ask, number_of in ((least_last, last_by_words), (least_cost, cost_by_words)):
                number, order = min((number_of(sky, landings), order) for order, landings in ways)
                self.assertEqual(ask(sky), ("order", number, order))

    def test_all_landings_of_small_skies(self):
        chance = random.Random(44)
        seen = collections.Counter()
        for turn in range(250):
            meadow, ahead, gliders, fixed = a_sky(chance, 3)
            gliders = tuple(glider[:3] + (min(glider[3], glider[2] + 7),) + glider[4:] for glider in gliders)
            sky = (meadow, ahead, gliders, fixed)
            landings = all_landings(sky)
            for ask, number_of in ((least_last, last_of), (least_cost, cost_of)):
                told = ask(sky)
                seen[told is None] += 1
                if told is None:
                    self.assertEqual(landings, [], sky)
                else:
                    self.assertEqual(told[1], min(number_of(sky, one) for one in landings), sky)
                    self.assertEqual(number_of(sky, soonest(sky, told[2])[1]), told[1])
        self.assertGreater(min(seen.values()), 100)


class NoSkyTest(unittest.TestCase):
    def test_no_sky(self):
        for thing in ANYTHING + (list(make_sky()), make_sky()[:3], make_sky((make_glider(ring=1),))):
            for ask in (least_last, least_cost):
                with self.assertRaises(NoSky):
                    ask(thing)


class PointTwoTest(unittest.TestCase):
    def test_the_same_question_has_the_same_answer(self):
        first = make_sky((make_glider(weight=3), make_glider(weight=9)))
        second = make_sky((make_glider(weight=9), make_glider(weight=3)), ahead=(0, 40))
        told = [(least_last(sky), least_cost(sky)) for sky in (first, second)]
        self.assertNotEqual(told[0], told[1])
        for turn in range(2):
            self.assertEqual([(least_last(sky), least_cost(sky)) for sky in (first, second)], told)
        for last, cost in told:
            self.assertIsInstance(last, tuple)
            self.assertIsInstance(cost[2], tuple)


if __name__ == "__main__":
    unittest.main()
