import collections
import copy
import itertools
import random
import unittest

from downrings.best import least_cost, least_last
from downrings.errors import NoSky
from downrings.skies import is_sky
from downrings.tables import shows, table_of
from tests.by_words import best_by_words, cost_by_words, last_by_words, shows_by_words
from tests.chance import a_free_sky, a_sky
from tests.samples import (ANYTHING, BIG, ODD, all_paths, make_glider, make_meadow, make_sky, number_paths, part_at,
                           replaced, tuple_paths)

# Glider 1 is fixed; the free ones are 0, 2 and 3, of two kinds, and land sooner or cheaper by their order.
MEADOW = make_meadow(rings=4, sink=2, gaps=((3, 7), (5, 3)), shuts=((25, 28),))
GLIDERS = (
    make_glider(kind=0, joins=0, first=10, last=90, due=10, weight=9),
    make_glider(kind=1, joins=1, first=6, last=50, due=2, weight=2, ring=3),
    make_glider(kind=1, joins=5, first=12, last=80, due=14, weight=1),
    make_glider(kind=0, joins=2, first=8, last=90, due=20, weight=4),
)
SKY = make_sky(GLIDERS, fixed=(1,), ahead=(1, 4), meadow=MEADOW)
FREE = (0, 2, 3)
TABLE = table_of(SKY)
# In the order 1, 2, 0, 3 they land at 7, 12, 17 and 20; in the order 1, 0, 3, 2 they cost 10, 18, 0 and 8.
SHOWN = ("least", 20, 36)
# No greater than anything that is reached, so no row with it is wrong for lack of a corner.
BELOW_ALL = (-BIG, 0)


def expected(last, cost):
    """What point 12 says that a told table shows, by what point 10 tells."""
    return ("none",) if last is None else ("least", last[1], cost[1])


def row_at(table, lot, last):
    return [at for at, row in enumerate(table) if row[:2] == (lot, last)][0]


def with_row(table, at, row):
    return table[:at] + (row,) + table[at + 1:]


class TableOfTest(unittest.TestCase):
    def told(self, sky, shown):
        with self.subTest(sky=sky):
            self.assertTrue(is_sky(sky))
            table = table_of(sky)
            self.assertIsInstance(table, tuple)
            self.assertEqual(shows(sky, table), shown)
            self.assertEqual(shows_by_words(sky, table), shown)
            self.assertEqual(expected(least_last(sky), least_cost(sky)), shown)

    def test_no_gliders(self):
        for sky in (make_sky(), make_sky(ahead=(0, 50)), make_sky(meadow=make_meadow(rings=0, shuts=((0, 9999),)))):
            self.told(sky, ("least", 0, 0))
            self.assertEqual(shows(sky, ()), ("least", 0, 0))

    def test_one(self):
        one = (make_glider(first=10, due=4, weight=7),)
        self.told(make_sky(one), ("least", 10, 42))
        self.told(make_sky(one, ahead=(0, 9)), ("least", 12, 56))
        self.told(make_sky(one, ahead=(0, 99)), ("none",))

    def test_several(self):
        meadow = make_meadow(gaps=((3, 9), (4, 3)))
        gliders = (make_glider(kind=0, due=10, weight=50), make_glider(kind=1, due=10, weight=1))
        self.told(make_sky(gliders, meadow=meadow), ("least", 14, 9))
        self.told(SKY, SHOWN)

    def test_without_free_ones(self):
        gliders = (make_glider(due=0, weight=9), make_glider(due=0, weight=1, ring=2), make_glider(due=0, weight=5))
        sky = make_sky(gliders, fixed=(2, 1, 0))
        self.told(sky, ("least", 16, 207))
        self.assertEqual(table_of(sky), ())
        for rings, shown in ((3, ("least", 16, 207)), (2, ("none",))):
            sky = make_sky(gliders, fixed=(2, 1, 0), meadow=make_meadow(rings=rings))
            self.told(sky, shown)
            self.assertEqual(shows(sky, ()), shown)

    def test_fixed_ones_that_are_stuck(self):
        # By the last minute, by the rings (the free one counted among those that join), by the highest ring.
        last = make_sky((make_glider(first=10, last=12), make_glider(), make_glider()), fixed=(1, 0))
        rings = make_sky((make_glider(), make_glider()), fixed=(0,), meadow=make_meadow(rings=1))
        ring = make_sky((make_glider(), make_glider(ring=1), make_glider()), fixed=(0, 1))
        for sky in (last, rings, ring):
            self.told(sky, ("none",))
            self.assertTrue(all(corners == () for lot, last, corners in table_of(sky)))
        alone = make_sky((make_glider(),), fixed=(0,), meadow=make_meadow(rings=1))
        self.told(alone, ("least", 10, 0))

    def test_stuck_free_ones(self):
        self.told(make_sky((make_glider(first=10, last=12),) * 2), ("none",))
        self.told(make_sky((make_glider(),) * 3, meadow=make_meadow(rings=1)), ("none",))
        self.told(make_sky((make_glider(),), meadow=make_meadow(rings=0)), ("none",))

    def test_all_alike(self):
        for many in range(1, 8):
            sky = make_sky((make_glider(first=10, due=10, weight=2),) * many, meadow=make_meadow(rings=8))
            self.told(sky, ("least", 10 + 3 * (many - 1), 6 * sum(range(many))))

    def test_none_to_seven_by_chance(self):
        chance = random.Random(12)
        seen = collections.Counter()
        for turn in range(600):
            sky = a_free_sky(chance, chance.randint(0, 7)) if turn % 2 else a_sky(chance, 7)
            self.assertTrue(is_sky(sky))
            shown = shows(sky, table_of(sky))
            self.assertEqual(shown, expected(least_last(sky), least_cost(sky)), sky)
            many = len(sky[2])
            if many < 5:
                orders = (best_by_words(sky, last_by_words), best_by_words(sky, cost_by_words))
                self.assertEqual(shown, expected(*orders), sky)
                self.assertEqual(shown, shows_by_words(sky, table_of(sky)), sky)
            seen[(many, bool(sky[3]), shown[0])] += 1
        for many, fixed, word in itertools.product(range(2, 8), (True, False), ("none", "least")):
            self.assertGreater(seen[(many, fixed, word)], 0, (many, fixed, word))


class NoTableTest(unittest.TestCase):
    def none(self, sky, thing):
        with self.subTest(thing=str(thing)[:300]):
            self.assertIsNone(shows(sky, thing))

    def test_the_table_itself(self):
        self.assertEqual(shows(SKY, TABLE), SHOWN)
        self.assertEqual(len(TABLE), 12)
        self.assertGreater(max(len(corners) for lot, last, corners in TABLE), 1)

    def test_anything(self):
        for thing in ANYTHING + (list(TABLE), TABLE[0], (TABLE,), dict(enumerate(TABLE)), SKY, (TABLE[0][0],)):
            self.none(SKY, thing)

    def test_anything_without_free_ones(self):
        for sky in (make_sky(), make_sky((make_glider(),), fixed=(0,))):
            self.assertEqual(shows(sky, ())[0], "least")
            for thing in ANYTHING + (TABLE, (((0,), 0, ()),), (((), 0, ()),), ((),)):
                if thing != ():
                    self.none(sky, thing)

    def test_other_things_in_the_place_of_each_part(self):
        small = tuple(row for row in TABLE if len(row[0]) < 3) + tuple(row for row in TABLE if len(row[0]) == 3)
        self.assertEqual(shows(SKY, small), SHOWN)
        for path in all_paths(small):
            for thing in ODD:
                self.none(SKY, replaced(small, path, thing))

    def test_lists_in_the_place_of_each_tuple(self):
        for path in tuple_paths(TABLE):
            self.none(SKY, replaced(TABLE, path, list(part_at(TABLE, path))))
            self.none(SKY, replaced(TABLE, path, dict(enumerate(part_at(TABLE, path)))))

    def test_tuples_and_texts_in_the_place_of_each_number(self):
        for path in number_paths(TABLE):
            number = part_at(TABLE, path)
            for thing in ((number,), [number], str(number), {number: number}):
                self.none(SKY, replaced(TABLE, path, thing))

    def test_truths_that_are_numbers_to_python(self):
        sky = make_sky((make_glider(first=1, last=1, due=0, weight=1), make_glider(first=2, last=2, due=1, weight=0)),
                       meadow=make_meadow(sink=1, gaps=((1,),)))
        table = (((0,), 0, ((1, 1),)), ((1,), 1, ((1, 0),)), ((0, 1), 0, ()), ((0, 1), 1, ((1, 1),)))
        self.assertEqual(shows(sky, table), ("least", 1, 1))
        for path in number_paths(table):
            self.none(sky, replaced(table, path, bool(part_at(table, path))))

    def test_parts_left_out_or_one_too_many(self):
        for at, (lot, last, corners) in enumerate(TABLE):
            for row in ((), (lot,), (lot, last), (lot, last, corners, ()), (lot, last, corners, corners), (last, lot, corners),
                        (lot, corners, last), (lot, last) + corners, lot + (last, corners)):
                self.none(SKY, with_row(TABLE, at, row))
            for corner in ((), (1,), (1, 0, 0), ((1, 0),), (None, 0), (0, None)):
                self.none(SKY, with_row(TABLE, at, (lot, last, corners + (corner,))))

    def test_lots_that_are_none_of_free_ones(self):
        # Such a row behind a table that is right and lacks nothing is amiss, and so is the whole.
        for lot in ((), (1,), (0, 1), (1, 2), (0, 1, 2, 3), (4,), (-1,), (0, 4), (-1, 0), (BIG,), (-BIG,), (2, 0), (0, 0),
                    (0, 0, 2), (0, 3, 2), (3, 2, 0), (False,), (False, 2), (0, None), ("0",), [0], {0: 0}, "0", 0, None, True):
            for last in (0, 1, 2, 3, 4, -1, None, False, (0,)):
                self.none(SKY, TABLE + ((lot, last, ()),))
                self.none(SKY, TABLE + ((lot, last, (BELOW_ALL,)),))
                self.none(SKY, ((lot, last, (BELOW_ALL,)),) + TABLE)

    def test_a_last_one_that_is_not_of_the_lot(self):
        for at, (lot, last, corners) in enumerate(TABLE):
            for other in (-1, 0, 1, 2, 3, 4, BIG, -BIG, True, False, None, "0", (last,), [last], lot):
                if other not in lot or other is False:
                    self.none(SKY, with_row(TABLE, at, (lot, other, corners)))
                    self.none(SKY, TABLE + ((lot, other, (BELOW_ALL,)),))

    def test_a_cost_below_0(self):
        for at, (lot, last, corners) in enumerate(TABLE):
            for cost in (-1, -BIG):
                self.none(SKY, with_row(TABLE, at, (lot, last, corners + ((BIG, cost),))))
                self.none(SKY, with_row(TABLE, at, (lot, last, ((0, cost),))))
            # Nothing is reached from so late a corner, so it may stand there where its cost is 0.
            late = with_row(TABLE, at, (lot, last, corners + ((999, 0),)))
            self.assertEqual(shows(SKY, late), ("least", 20, 0 if len(lot) == 3 else 36))
            self.assertEqual(shows_by_words(SKY, late), shows(SKY, late))


class NotRightTest(unittest.TestCase):
    def none(self, thing, sky=SKY):
        with self.subTest(thing=str(thing)[:300]):
            self.assertIsNone(shows(sky, thing))

    def test_a_row_twice(self):
        for at, row in enumerate(TABLE):
            self.none(TABLE + (row,))
            self.none(TABLE[:at] + (row,) + TABLE[at:])
            self.none(TABLE + (row[:2] + (row[2] + ((0, 0),),),))

    def test_a_row_ahead_of_those_it_leans_on(self):
        for at, (lot, last, corners) in enumerate(TABLE):
            rest = TABLE[:at] + TABLE[at + 1:]
            if len(lot) > 1:
                self.none((TABLE[at],) + rest)
            if len(lot) < 3:
                self.none(rest + (TABLE[at],))
        self.none(TABLE[::-1])

    def test_any_order_in_which_each_is_behind_those_it_leans_on(self):
        chance = random.Random(3)
        for turn in range(20):
            shuffled = list(TABLE)
            chance.shuffle(shuffled)
            shuffled.sort(key=lambda row: len(row[0]))
            self.assertEqual(shows(SKY, tuple(shuffled)), SHOWN)

    def test_a_row_left_out(self):
        # A lot of all free ones lacks for one as last; all others are leant on.
        for at, (lot, last, corners) in enumerate(TABLE):
            self.none(TABLE[:at] + TABLE[at + 1:])
        self.none(())
        for many in range(len(TABLE)):
            self.none(TABLE[:many])

    def test_a_corner_left_out_or_too_great_by_one(self):
        for at, (lot, last, corners) in enumerate(TABLE):
            self.assertGreater(len(corners), 0)
            for k, (minute, cost) in enumerate(corners):
                for new in ((), ((minute + 1, cost),), ((minute, cost + 1),), ((minute + 1, cost - 1),),
                            ((minute - 1, cost + 1),)):
                    if not new or new[0][1] >= 0:
                        self.none(with_row(TABLE, at, (lot, last, corners[:k] + new + corners[k + 1:])))

    def test_a_corner_that_is_less_by_one_is_seen_by_the_rows_that_lean_on_it(self):
        changed = 0
        for at, (lot, last, corners) in enumerate(TABLE):
            for k, (minute, cost) in enumerate(corners):
                for new in ((minute - 1, cost), (minute, cost - 1)):
                    if new[1] >= 0:
                        table = with_row(TABLE, at, (lot, last, corners[:k] + (new,) + corners[k + 1:]))
                        self.assertEqual(shows(SKY, table), shows_by_words(SKY, table))
                        changed += shows(SKY, table) is None
        self.assertGreater(changed, 5)

    def test_the_start_of_a_lot_of_one(self):
        # From the fixed one that lands at 10, of kind 0: glider 1 of kind 1 is at 17; its cost goes on top.
        meadow = make_meadow(gaps=((3, 7), (5, 3)))
        gliders = (make_glider(kind=0, due=4, weight=2), make_glider(kind=1, due=10, weight=3))
        sky = make_sky(gliders, fixed=(0,), ahead=(1, 3), meadow=meadow)
        for corner, shown in (((17, 33), ("least", 17, 33)), ((16, 33), ("least", 16, 33)), ((17, 0), ("least", 17, 0)),
                              ((18, 33), None), ((17, 34), None), ((-BIG, 0), ("least", -BIG, 0))):
            self.assertEqual(shows(sky, (((1,), 1, (corner,)),)), shown)
        self.none((((1,), 1, ()),), sky)
        # Without it the landing ahead, of kind 1 at 30, is the start, and nothing is paid so far.
        sky = make_sky(gliders[1:], ahead=(1, 30), meadow=meadow)
        for corner, shown in (((33, 69), ("least", 33, 69)), ((34, 69), None), ((33, 70), None)):
            self.assertEqual(shows(sky, (((0,), 0, (corner,)),)), shown)
        # Without that, too, it is its first minute.
        sky = make_sky(gliders[1:], meadow=meadow)
        for corner, shown in (((10, 0), ("least", 10, 0)), ((11, 0), None), ((10, 1), None)):
            self.assertEqual(shows(sky, (((0,), 0, (corner,)),)), shown)

    def test_nothing_reached_needs_no_corner(self):
        for last, shown in ((12, ("none",)), (13, None)):
            sky = make_sky((make_glider(first=10, last=last),) * 2)
            rows = (((0,), 0, ((10, 0),)), ((1,), 1, ((10, 0),)), ((0, 1), 0, ()), ((0, 1), 1, ()))
            self.assertEqual(shows(sky, rows), shown)
        # Likewise by leaving: of one ring, its place being counted with the fixed one.
        for first, shown in ((22, None), (23, ("none",))):
            gliders = (make_glider(joins=0, first=2), make_glider(joins=5, first=first), make_glider(joins=20, first=30))
            sky = make_sky(gliders, fixed=(0,), meadow=make_meadow(rings=1))
            rows = (((1,), 1, ()), ((2,), 2, ()), ((1, 2), 1, ()), ((1, 2), 2, ()))
            self.assertEqual(shows(sky, rows), shown)

    def test_no_start_needs_no_corner(self):
        sky = make_sky((make_glider(), make_glider(ring=1), make_glider()), fixed=(0, 1))
        self.assertEqual(shows(sky, (((2,), 2, ()),)), ("none",))
        self.assertEqual(shows(sky, (((2,), 2, ((5, 5),)),)), ("least", 5, 5))
        self.none((), sky)


class LooserTest(unittest.TestCase):
    def test_one_corner_below_all(self):
        for corner in ((0, 0), (-1, 0), (10, 0), BELOW_ALL):
            loose = tuple((lot, last, (corner,)) for lot, last, corners in TABLE)
            self.assertEqual(shows(SKY, loose), ("least", corner[0], 0))

    def test_a_looser_table_shows_no_more(self):
        chance = random.Random(5)
        for turn in range(300):
            table = TABLE
            for at in chance.sample(range(12), chance.randint(1, 12)):
                lot, last, corners = table[at]
                less = tuple((minute - chance.randint(0, 9), chance.randint(0, cost)) for minute, cost in corners)
                table = with_row(table, at, (lot, last, corners + less if chance.random() < 0.5 else less))
            shown = shows(SKY, table)
            self.assertEqual(shown, shows_by_words(SKY, table))
            if shown is not None:
                self.assertLessEqual(shown[1], 20)
                self.assertLessEqual(shown[2], 36)

    def test_the_last_rows_alone_looser(self):
        loose = tuple(row if len(row[0]) < 3 else row[:2] + (row[2] + ((18, 200), (99, 30)),) for row in TABLE)
        self.assertEqual(shows(SKY, loose), ("least", 18, 30))

    def test_the_least_of_both_may_stand_in_two_corners_and_two_rows(self):
        table = (((0,), 0, ((10, 10),)), ((1,), 1, ((10, 10),)), ((0, 1), 0, ((13, 50), (1, 999))),
                 ((0, 1), 1, ((13, 7), (13, 8), (13, 50))))
        sky = make_sky((make_glider(due=0, weight=1), make_glider(due=0, weight=1)))
        self.assertIsNone(shows(sky, table))
        table = with_row(table, 2, ((0, 1), 0, ((13, 23), (1, 999))))
        self.assertEqual(shows(sky, table), ("least", 1, 7))

    def test_corners_of_no_use_do_no_harm(self):
        for at, (lot, last, corners) in enumerate(TABLE):
            more = tuple((minute + 5, cost + 5) for minute, cost in corners) + ((BIG, BIG),)
            for new in (corners + corners, corners[::-1], more + corners, corners + more, more[:1] + corners + more):
                self.assertEqual(shows(SKY, with_row(TABLE, at, (lot, last, new))), SHOWN)

    def test_rows_of_no_use_do_no_harm(self):
        # Nothing is reached in them, or what follows from them is nothing; they are right, and so is the whole.
        sky = make_sky((make_glider(first=10, last=12),) * 2)
        for extra in ((), ((10, 0),), ((0, 0), (99, 99))):
            rows = (((0,), 0, ((10, 0),) + extra), ((1,), 1, ((10, 0),)), ((0, 1), 0, ()), ((0, 1), 1, ()))
            self.assertEqual(shows(sky, rows), shows_by_words(sky, rows))
        rows = (((0,), 0, ((10, 0), (BIG, 0))), ((1,), 1, ((10, 0),)), ((0, 1), 0, ()), ((0, 1), 1, ()))
        self.assertEqual(shows(sky, rows), ("none",))

    def test_many_corners(self):
        # As many as may be handed in, none of them of no use.
        sky = make_sky((make_glider(last=9999, due=0, weight=1),) * 2)
        steps = tuple((20 + k, 9000 - k) for k in range(1600))
        both = tuple((23 + k, 9000 + 23 - 1) for k in range(1600))
        first = ((10, 10),)
        table = (((0,), 0, first + steps), ((1,), 1, first + steps), ((0, 1), 0, ((13, 23),) + both),
                 ((0, 1), 1, ((13, 23),) + both))
        self.assertEqual(shows(sky, table), ("least", 13, 23))
        self.assertIsNone(shows(sky, with_row(table, 3, ((0, 1), 1, ((14, 23),) + both))))


class AnotherSkyTest(unittest.TestCase):
    def test_a_table_of_one_sky_held_against_another(self):
        for sky in (
            make_sky(GLIDERS, fixed=(1,), ahead=(1, 5), meadow=MEADOW),
            make_sky(GLIDERS, fixed=(1,), meadow=MEADOW),
            make_sky(GLIDERS, fixed=(1, 0), ahead=(1, 4), meadow=MEADOW),
            make_sky(GLIDERS[:3], fixed=(1,), ahead=(1, 4), meadow=MEADOW),
            make_sky(GLIDERS + GLIDERS[:1], fixed=(1,), ahead=(1, 4), meadow=MEADOW),
            make_sky(GLIDERS, fixed=(1,), ahead=(1, 4), meadow=replaced(MEADOW, (0,), 3)),
            make_sky(GLIDERS, fixed=(1,), ahead=(1, 4), meadow=replaced(MEADOW, (2, 0, 0), 2)),
            make_sky(GLIDERS, fixed=(1,), ahead=(1, 4), meadow=replaced(MEADOW, (3,), ())),
            make_sky(GLIDERS[:3] + (make_glider(kind=0, joins=2, first=8, last=20, due=20, weight=4),), fixed=(1,),
                     ahead=(1, 4), meadow=MEADOW),
        ):
            with self.subTest(sky=sky):
                self.assertTrue(is_sky(sky))
                self.assertEqual(shows(sky, TABLE), shows_by_words(sky, TABLE))
        # All lands a minute later, so its corners are all small enough, and it shows less than it could.
        later = make_sky(GLIDERS, fixed=(1,), ahead=(1, 5), meadow=MEADOW)
        self.assertEqual(shows(later, TABLE), SHOWN)
        self.assertNotEqual(shows(later, table_of(later)), SHOWN)
        # All lands sooner, so they are too great.
        self.assertIsNone(shows(make_sky(GLIDERS, fixed=(1,), meadow=MEADOW), TABLE))

    def test_by_chance(self):
        chance = random.Random(21)
        seen = collections.Counter()
        for turn in range(300):
            sky = a_free_sky(chance, chance.randint(1, 4))
            table = table_of(sky)
            gliders = list(sky[2])
            at = chance.randrange(len(gliders))
            part = chance.choice((2, 3, 4, 5))
            new = list(gliders[at])
            new[part] += chance.choice((-1, 1))
            gliders[at] = tuple(new)
            other = (sky[0], sky[1], tuple(gliders), sky[3])
            if is_sky(other):
                shown = shows(other, table)
                self.assertEqual(shown, shows_by_words(other, table), (sky, other))
                seen[shown and shown[0]] += 1
                if shown is not None:
                    self.sound(other, shown)
        self.assertEqual(len(seen), 3)
        self.assertGreater(min(seen.values()), 10)

    def sound(self, sky, shown):
        """No landings do better than a table shows, whatever table it is."""
        last, cost = least_last(sky), least_cost(sky)
        if shown == ("none",):
            self.assertIsNone(last)
        elif last is not None:
            self.assertLessEqual(shown[1], last[1])
            self.assertLessEqual(shown[2], cost[1])

    def test_spoilt_tables_by_chance(self):
        chance = random.Random(22)
        seen = collections.Counter()
        for turn in range(1500):
            sky = a_free_sky(chance, chance.randint(1, 4))
            table = self.spoilt(chance, table_of(sky))
            shown = shows(sky, table)
            self.assertEqual(shown, shows_by_words(sky, table), (sky, table))
            seen[shown and shown[0]] += 1
            if shown is not None:
                self.sound(sky, shown)
        self.assertEqual(len(seen), 3)
        self.assertGreater(min(seen.values()), 50)

    def spoilt(self, chance, table):
        if not table:
            return chance.choice((table, (((0,), 0, ()),)))
        at = chance.randrange(len(table))
        lot, last, corners = table[at]
        way = chance.randrange(7)
        if way == 0:
            return table[:at] + table[at + 1:]
        if way == 1:
            other = chance.randrange(len(table))
            return with_row(with_row(table, at, table[other]), other, table[at])
        if way == 2 or not corners:
            corner = (chance.randint(-3, 40), chance.randint(0, 90))
            return with_row(table, at, (lot, last, corners + (corner,)))
        k = chance.randrange(len(corners))
        minute, cost = corners[k]
        new = chance.choice(((), ((minute - 1, cost),), ((minute, max(0, cost - 1)),), ((minute + 1, cost),)))
        return with_row(table, at, (lot, last, corners[:k] + new + corners[k + 1:]))


class NoSkyTest(unittest.TestCase):
    def test_no_sky_whatever_the_table(self):
        for sky in ANYTHING + (list(SKY), SKY[:3], replaced(SKY, (3,), ())):
            with self.assertRaises(NoSky):
                table_of(sky)
            for thing in (TABLE, (), None, [], "x"):
                with self.assertRaises(NoSky):
                    shows(sky, thing)


class PointTwoTest(unittest.TestCase):
    def test_what_was_handed_in_is_the_same(self):
        odd = ([list(row) for row in TABLE], (((0,), 0, [(10, 0)]),), ([[0], 0, ()],), TABLE, {"a": [TABLE]})
        for thing in odd + ANYTHING:
            before = copy.deepcopy(thing)
            self.assertEqual(shows(SKY, thing), shows(SKY, thing))
            self.assertEqual(thing, before)

    def test_the_same_question_has_the_same_answer(self):
        kept = copy.deepcopy(TABLE)
        other = make_sky((make_glider(),) * 3)
        table_of(other)
        self.assertEqual(table_of(SKY), kept)
        self.assertEqual(TABLE, kept)
        self.assertEqual(shows(SKY, TABLE), shows(SKY, kept))

    def test_a_told_table_has_no_list_that_could_be_changed(self):
        for path in all_paths(TABLE):
            self.assertIsInstance(part_at(TABLE, path), (tuple, int))


if __name__ == "__main__":
    unittest.main()
