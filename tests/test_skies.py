import copy
import unittest

from downrings.errors import NoSky
from downrings.landings import amiss, cost_of, keeps, last_of
from downrings.skies import is_sky
from tests.samples import (ANYTHING, BIG, ODD, all_paths, make_glider, make_meadow, make_sky, number_paths, part_at,
                           replaced, tuple_paths)

MEADOW = (3, 2, ((3, 4), (5, 6)), ((40, 45),))
GLIDERS = (
    (0, 5, 10, 100, 20, 1, 0),
    (1, 0, 2, 50, 9, 99, 3),
    (1, 7, 9, 9, 0, 0, 1),
    (0, 60, 62, 9999, 9999, 50, 0),
)
RICH = (MEADOW, (1, 4), GLIDERS, (2, 0, 1))


class IsSkyTest(unittest.TestCase):
    def told(self, thing, told):
        with self.subTest(thing=str(thing)[:300]):
            self.assertIs(is_sky(thing), told)

    def one(self, told, meadow=MEADOW, **fields):
        """A sky of one fixed glider, so that any ring may stand in it."""
        self.told((meadow, None, (make_glider(**fields),), (0,)), told)

    def test_skies(self):
        self.told(RICH, True)
        self.told(make_sky(), True)
        self.told(make_sky((make_glider(),) * 7), True)
        self.told(make_sky((make_glider(),) * 7, fixed=(6, 5, 4, 3, 2, 1, 0)), True)
        self.told(make_sky(ahead=(0, 0), meadow=(0, 0, ((1,),), ())), True)

    def test_anything_else(self):
        for thing in ANYTHING + (MEADOW, GLIDERS, list(RICH)):
            self.told(thing, False)

    def test_meadow(self):
        for thing in ANYTHING + (MEADOW[:3], list(MEADOW), replaced(MEADOW, (0,), 9), replaced(MEADOW, (2, 0, 0), 0)):
            self.told((thing, None, (), ()), False)
            self.told(replaced(RICH, (0,), thing), False)

    def test_kind(self):
        for kind, told in ((-1, False), (0, True), (1, True), (2, False), (BIG, False), (-BIG, False)):
            self.one(told, kind=kind)
        self.one(False, meadow=make_meadow(), kind=1)
        self.one(True, meadow=make_meadow(gaps=((9,) * 4,) * 4), kind=3)

    def test_joins(self):
        for joins, told in ((-1, False), (0, True), (8, True), (9, False), (BIG, False), (-BIG, False)):
            self.one(told, joins=joins, first=10)
        self.one(True, joins=9997, first=9999, last=9999)
        self.one(False, joins=9998, first=9999, last=9999)
        nosink = make_meadow(sink=0)
        self.one(True, meadow=nosink, joins=9999, first=9999, last=9999)
        self.one(False, meadow=nosink, joins=10000, first=10000, last=10000)
        self.one(False, meadow=nosink, joins=-1, first=0, last=0)

    def test_first(self):
        for first, told in ((-1, False), (1, False), (2, True), (100, True), (101, False), (BIG, False)):
            self.one(told, first=first, last=100)
        for sink in (0, 1, 60):
            for first in (sink + 6, sink + 7, sink + 8):
                self.one(first >= sink + 7, meadow=make_meadow(sink=sink), joins=7, first=first)
        nosink = make_meadow(sink=0)
        self.one(True, meadow=nosink, first=0, last=0)
        self.one(False, meadow=nosink, first=-1, last=0)

    def test_last(self):
        for last, told in ((9, False), (10, True), (9999, True), (10000, False), (BIG, False), (-BIG, False)):
            self.one(told, first=10, last=last)

    def test_due(self):
        # It may be due ahead of its joining and behind its last minute.
        for due, told in ((-1, False), (0, True), (9999, True), (10000, False), (BIG, False), (-BIG, False)):
            self.one(told, due=due, joins=5, last=50)

    def test_weight(self):
        for weight, told in ((-1, False), (0, True), (99, True), (100, False), (BIG, False), (-BIG, False)):
            self.one(told, weight=weight)

    def test_ring(self):
        for rings in range(9):
            meadow = make_meadow(rings=rings)
            for ring in (-1, 0, 1, rings, rings + 1, BIG):
                self.one(0 <= ring <= rings, meadow=meadow, ring=ring)

    def test_how_many_gliders(self):
        for many in range(10):
            self.told(make_sky((make_glider(),) * many), many <= 7)

    def test_ahead(self):
        for ahead, told in (
            (None, True), ((0, 0), True), ((1, 9999), True), ((2, 0), False), ((-1, 0), False), ((0, -1), False),
            ((0, 10000), False), ((), False), ((0,), False), ((0, 0, 0), False), ([0, 0], False), ((True, 0), False),
            ((0, True), False), ((0, None), False), ((None, 0), False), ("00", False), ({0: 0, 1: 1}, False), (0, False),
            (False, False), ((BIG, 0), False), ((0, BIG), False),
        ):
            self.told((MEADOW, ahead, (), ()), told)
            self.told(replaced(RICH, (1,), ahead), told)

    def test_fixed(self):
        free = (make_glider(),) * 3
        for fixed, told in (
            ((), True), ((0,), True), ((2, 0), True), ((0, 2, 1), True), ((0, 0), False), ((1, 0, 1), False),
            ((3,), False), ((-1,), False), ((0, 1, 2, 3), False), ((0, 1, 2, 0), False), ((BIG,), False),
            ([0], False), ((True,), False), ((False,), False), ((0, True), False), ((None,), False), (("0",), False),
            (((0,),), False), (None, False), ("", False), ("0", False), ({}, False), ({0: 0}, False), (0, False),
            ((0,) * 19999, False), (tuple(range(19999)), False),
        ):
            self.told(make_sky(free, fixed=fixed), told)
        self.told(make_sky(fixed=(0,)), False)

    def test_a_glider_whose_ring_is_not_0_is_fixed(self):
        gliders = (make_glider(), make_glider(ring=1), make_glider(), make_glider(ring=3))
        for fixed, told in (((), False), ((1,), False), ((3,), False), ((1, 3), True), ((3, 1), True), ((0, 2), False),
                            ((0, 1, 2), False), ((0, 3, 2, 1), True), ((2, 3, 1), True)):
            self.told(make_sky(gliders, fixed=fixed), told)

    def test_other_things_at_each_place(self):
        for path in all_paths(RICH):
            for thing in ODD:
                self.told(replaced(RICH, path, thing), path == (1,) and thing is None)

    def test_numbers_in_the_place_of_each_tuple(self):
        for path in tuple_paths(RICH):
            for thing in (0, 1, BIG):
                self.told(replaced(RICH, path, thing), False)

    def test_lists_in_the_place_of_each_tuple(self):
        for path in tuple_paths(RICH):
            self.told(replaced(RICH, path, list(part_at(RICH, path))), False)

    def test_tuples_in_the_place_of_each_number(self):
        for path in number_paths(RICH):
            for thing in ((), (part_at(RICH, path),), str(part_at(RICH, path))):
                self.told(replaced(RICH, path, thing), False)

    def test_truths_that_are_numbers_to_python(self):
        small = ((1, 1, ((1, 1), (1, 1)), ((0, 1),)), (1, 0), ((1, 0, 1, 1, 1, 1, 1), (0, 0, 1, 1, 0, 0, 0)), (0, 1))
        self.told(small, True)
        for path in number_paths(small):
            self.told(replaced(small, path, bool(part_at(small, path))), False)

    def test_parts_left_out_or_one_too_many(self):
        for path in tuple_paths(RICH):
            part = part_at(RICH, path)
            if path not in ((2,), (0, 3)):
                self.told(replaced(RICH, path, part + (part[-1],)), False)
            if path not in ((2,), (3,), (0, 3)):
                self.told(replaced(RICH, path, part[:-1]), False)
                self.told(replaced(RICH, path, part[1:]), False)
                self.told(replaced(RICH, path, ()), False)


class NoSkyTest(unittest.TestCase):
    def test_no_sky_ahead_of_all_else(self):
        bad = (replaced(RICH, (0,), None), replaced(RICH, (3,), (0,)), list(RICH), RICH[:3], MEADOW)
        for thing in ANYTHING + bad:
            for landings in ([], None, "x", [(0, 0)] * 21, (), [[0, 0]]):
                for ask in (keeps, amiss, last_of, cost_of):
                    with self.assertRaises(NoSky):
                        ask(thing, landings)


class PointTwoTest(unittest.TestCase):
    def test_nothing_is_changed_and_answers_stay(self):
        for thing in ANYTHING + (RICH, list(RICH)):
            before = copy.deepcopy(thing)
            self.assertIs(is_sky(thing), is_sky(thing))
            self.assertEqual(thing, before)


if __name__ == "__main__":
    unittest.main()
