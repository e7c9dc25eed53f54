"""Points 1 to 5 over the whole program: what holds of all its modules together."""

import collections
import copy
import random
import unittest

from downrings.best import least_cost, least_last
from downrings.errors import NoMeadow, NoSky
from downrings.landings import amiss, cost_of, keeps, last_of
from downrings.lots import can_land, least_sendings, least_stuck, longer, narrowed
from downrings.meadows import open_from
from downrings.orders import soonest
from downrings.rings import held, is_holding, waiting
from downrings.skies import is_sky
from downrings.tables import shows, table_of
from downrings.texts import read, written
from downrings.tower import Tower
from tests.by_words import all_landings, lots_by_words, rings_of
from tests.by_words import waiting as waiting_by_words
from tests.chance import a_free_sky, a_sky
from tests.samples import ANYTHING, make_glider, make_meadow, make_sky, number_paths, replaced, tuple_paths

SKY = (
    (3, 2, ((3, 4), (5, 6)), ((40, 45),)),
    (1, 4),
    ((0, 5, 10, 100, 20, 1, 0), (1, 0, 2, 50, 9, 99, 3), (0, 60, 62, 9999, 9999, 50, 0)),
    (1,),
)
LANDINGS = soonest(SKY, (1, 0, 2))[1]

# Each function to which a sky is handed in, with all else right, and with all else wrong.
OF_SKIES = {
    "keeps": (keeps, (LANDINGS,), (None,)), "amiss": (amiss, (LANDINGS,), (None,)),
    "last_of": (last_of, (LANDINGS,), (None,)), "cost_of": (cost_of, (LANDINGS,), (None,)),
    "soonest": (soonest, ((1, 0, 2),), (None,)), "least_last": (least_last, (), ()), "least_cost": (least_cost, (), ()),
    "shows": (shows, (table_of(SKY),), (None,)), "table_of": (table_of, (), ()),
    "narrowed": (narrowed, ((0, 1),), (None,)), "can_land": (can_land, ((0, 1),), (None,)),
    "least_stuck": (least_stuck, (), ()), "least_sendings": (least_sendings, (), ()), "longer": (longer, (), ()),
    "held": (held, (LANDINGS,), (None,)), "waiting": (waiting, (LANDINGS, 5), (None, 5)),
    "is_holding": (is_holding, (LANDINGS, held(SKY, LANDINGS)), (None, None)), "written": (written, (), ()),
}


def no_skies():
    """Things that are no skies, most of them by one number or one tuple."""
    found = list(ANYTHING) + [list(SKY), SKY[:3], SKY + ((),), SKY[0], SKY[2], written(SKY)]
    for path in number_paths(SKY):
        found += [replaced(SKY, path, thing) for thing in (-1, 10000, True, None, "1", (1,), [1])]
    for path in tuple_paths(SKY):
        found += [replaced(SKY, path, thing) for thing in ([], {}, "", 0, (None,), ((),))]
    return [thing for thing in found if not is_sky(thing)]


def small_skies(seed, turns):
    chance = random.Random(seed)
    for turn in range(turns):
        meadow, ahead, gliders, fixed = a_sky(chance, 3)
        gliders = tuple(glider[:3] + (min(glider[3], glider[2] + 7),) + glider[4:] for glider in gliders)
        yield (meadow, ahead, gliders, fixed)


class RefusalsTest(unittest.TestCase):
    def test_no_sky_wherever_one_is_handed_in(self):
        things = no_skies()
        self.assertGreater(len(things), 250)
        for name, (ask, right, wrong) in OF_SKIES.items():
            ask(SKY, *right)
            for thing in things:
                for others in (right, wrong):
                    with self.subTest(ask=name, thing=str(thing)[:200]):
                        with self.assertRaises(NoSky):
                            ask(thing, *others)

    def test_no_meadow_wherever_one_is_handed_in(self):
        meadow = SKY[0]
        things = list(ANYTHING) + [list(meadow), meadow[:3], meadow + ((),), SKY]
        for path in number_paths(meadow):
            things += [replaced(meadow, path, thing) for thing in (-1, 10000, True, None, "1", (1,), [1])]
        for path in tuple_paths(meadow):
            things += [replaced(meadow, path, thing) for thing in ([], {}, "", 0, (None,), ((),))]
        open_from(meadow, 5)
        Tower(meadow)
        for thing in things:
            with self.subTest(thing=str(thing)[:200]):
                with self.assertRaises(NoMeadow):
                    Tower(thing)
                for minute in (5, None):
                    with self.assertRaises(NoMeadow):
                        open_from(thing, minute)


class PromiseTest(unittest.TestCase):
    def test_no_two_on_one_ring_and_no_gap_broken_at_any_minute(self):
        many = 0
        for sky in small_skies(3, 150):
            (rings, sink, gaps, shuts), ahead, gliders, fixed = sky
            for landings in all_landings(sky)[:60]:
                self.assertIs(keeps(sky, landings), True)
                holding = held(sky, landings)
                down = dict(landings)
                for minute in range(max(down.values(), default=0) + 1):
                    there = waiting_by_words(sky, landings, minute)
                    self.assertEqual(waiting(sky, landings, minute), there)
                    on = [rings_of(holding[g], [minute])[minute] for g in there]
                    self.assertEqual(on, sorted(set(on)))
                    self.assertTrue(all(1 <= ring <= rings for ring in on))
                    many += len(on) > 1
                    for g in down:
                        sooner = [h for h in down if h != g and down[h] <= minute and down[h] <= down[g]]
                        if down[g] == minute:
                            self.assertTrue(all(down[h] + gaps[gliders[h][0]][gliders[g][0]] <= minute for h in sooner))
                            self.assertFalse(any(begin <= minute < end for begin, end in shuts))
        self.assertGreater(many, 1000)

    def test_told_orders_against_their_tables(self):
        chance = random.Random(31)
        seen = collections.Counter()
        for turn in range(200):
            sky = a_sky(chance, 6) if turn % 2 else a_free_sky(chance, chance.randint(0, 6))
            told = shows(sky, table_of(sky))
            last, cost = least_last(sky), least_cost(sky)
            seen[told[0]] += 1
            if told == ("none",):
                self.assertEqual((last, cost), (None, None))
                continue
            self.assertEqual(told, ("least", last[1], cost[1]))
            for (word, number, order), number_of in ((last, last_of), (cost, cost_of)):
                lands, landings = soonest(sky, order)
                self.assertEqual((lands, number_of(sky, landings)), ("lands", number))
                # Told landings can be held, whatever the order.
                self.assertIs(is_holding(sky, landings, held(sky, landings)), True)
        self.assertGreater(min(seen.values()), 30, seen)

    def test_no_landings_do_better_than_a_table_shows(self):
        for sky in small_skies(32, 100):
            told = shows(sky, table_of(sky))
            landings = all_landings(sky)
            if told == ("none",):
                self.assertEqual(landings, [])
            else:
                self.assertEqual(min(last_of(sky, one) for one in landings), told[1])
                self.assertEqual(min(cost_of(sky, one) for one in landings), told[2])

    def test_stuck_lots_against_sendings(self):
        chance = random.Random(33)
        for turn in range(80):
            sky = a_sky(chance, 5) if turn % 2 else a_free_sky(chance, chance.randint(0, 5))
            stuck, sendings = least_stuck(sky), least_sendings(sky)
            for lot in lots_by_words(sky):
                self.assertIs(can_land(sky, lot), not any(set(other) <= set(lot) for other in stuck))
                rest = tuple(g for g in range(len(sky[2])) if g not in lot)
                sends = any(set(other) <= set(lot) for other in sendings)
                self.assertIs(can_land(sky, rest), sends)
                self.assertIs(all(set(other) & set(lot) for other in stuck), sends)

    def test_what_was_told_may_be_handed_in_again(self):
        sky = make_sky((make_glider(first=2, last=9999, due=0, weight=99),) * 7, meadow=make_meadow(rings=8))
        table = table_of(sky)
        self.assertEqual(shows(sky, table)[0], "least")
        landings = soonest(sky, least_cost(sky)[2])[1]
        self.assertIs(is_holding(sky, landings, held(sky, landings)), True)
        self.assertEqual(read(written(sky)), sky)
        tower = Tower(sky[0])
        for name in "abcdefg":
            tower.comes(name, 0, 0, 9999, 0, 99)
        self.assertEqual(read(written(tower.sky())), tower.sky())
        self.assertEqual(soonest(tower.sky(), least_last(tower.sky())[2])[0], "lands")
        self.assertIsInstance(Tower(tower.sky()[0]), Tower)


class PointTwoTest(unittest.TestCase):
    def test_what_was_handed_in_is_the_same_and_so_is_the_answer(self):
        for name, (ask, right, wrong) in OF_SKIES.items():
            kept = copy.deepcopy((SKY, right))
            with self.subTest(ask=name):
                told = ask(SKY, *right)
                self.assertEqual((SKY, right), kept)
                before = copy.deepcopy(told)
                self.spoil(told)
                self.assertEqual(ask(SKY, *right), before)
                self.assertEqual((SKY, right), kept)

    def spoil(self, told):
        """Changes all lists and dicts that are told, those within others first."""
        if isinstance(told, (list, tuple)):
            for part in told:
                self.spoil(part)
        if isinstance(told, list):
            told.append("spoilt")
            told[0] = None

    def test_what_a_tower_tells(self):
        tower = Tower(SKY[0])
        for deed in (("comes", "a", 0, 0, 90, 0, 1), ("comes", "b", 1, 0, 90, 0, 1), ("comes", "c", 1, 0, 90, 0, 1), ("until", 2)):
            getattr(tower, deed[0])(*deed[1:])
        asked = ("now", "sky", "names", "plan", "landed", "rings", "aimed")
        kept = {word: copy.deepcopy(getattr(tower, word)()) for word in asked}
        for word in asked:
            self.spoil(getattr(tower, word)())
            self.assertEqual({word: getattr(tower, word)() for word in asked}, kept)


if __name__ == "__main__":
    unittest.main()
