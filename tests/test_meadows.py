import copy
import itertools
import unittest

from downrings.errors import NoMeadow
from downrings.meadows import is_meadow, open_from
from tests.samples import ANYTHING, BIG, ODD, all_paths, make_meadow, number_paths, part_at, replaced, tuple_paths

RICH = (5, 20, ((3, 4, 5), (6, 7, 8), (4, 5, 6)), ((10, 20), (30, 41), (60, 61)))
FOUR = tuple((begin, begin + 5) for begin in (0, 10, 20, 30))


class IsMeadowTest(unittest.TestCase):
    def told(self, thing, told):
        with self.subTest(thing=str(thing)[:200]):
            self.assertIs(is_meadow(thing), told)

    def test_meadows(self):
        self.told(RICH, True)
        self.told((0, 0, ((1,),), ()), True)
        self.told((8, 60, ((99,) * 4,) * 4, FOUR), True)
        self.told((1, 1, ((1, 2), (1, 1)), ((0, 9999),)), True)

    def test_anything_else(self):
        for thing in ANYTHING:
            self.told(thing, False)
        self.told(list(RICH), False)

    def test_rings(self):
        for rings, told in ((-1, False), (0, True), (8, True), (9, False), (BIG, False), (-BIG, False)):
            self.told(make_meadow(rings=rings), told)

    def test_sink(self):
        for sink, told in ((-1, False), (0, True), (60, True), (61, False), (BIG, False), (-BIG, False)):
            self.told(make_meadow(sink=sink), told)

    def test_gap_numbers(self):
        for gap, told in ((0, False), (1, True), (99, True), (100, False), (-1, False), (BIG, False)):
            self.told(make_meadow(gaps=((gap,),)), told)
            self.told(make_meadow(gaps=((gap, gap), (gap, gap))), told)

    def test_each_gap_number_beyond_its_bounds(self):
        for path in itertools.product(range(3), repeat=2):
            for gap, told in ((-1, False), (0, False), (50, True), (51, True), (100, False)):
                self.told(make_meadow(gaps=replaced(((50,) * 3,) * 3, path, gap)), told)
            self.told(make_meadow(gaps=replaced(((1,) * 3,) * 3, path, 2)), True)
            self.told(make_meadow(gaps=replaced(((99,) * 3,) * 3, path, 98)), True)

    def test_how_many_rows(self):
        for many, told in ((0, False), (1, True), (2, True), (3, True), (4, True), (5, False)):
            self.told(make_meadow(gaps=((7,) * many,) * many), told)

    def test_rows_of_unlike_lengths(self):
        for gaps in (((7, 7),), ((),), ((7,), (7,)), ((7, 7), (7,)), ((7,), (7, 7)), ((7, 7), (7, 7, 7)),
                     ((7, 7, 7), (7, 7, 7)), ((7, 7, 7), (7, 7), (7, 7, 7)), ((7, 7), ())):
            self.told(make_meadow(gaps=gaps), False)

    def test_a_glider_between_makes_no_gap_less(self):
        for gap, told in ((9, True), (10, True), (11, False)):
            self.told(make_meadow(gaps=((5, gap, 4), (50, 50, 50), (50, 6, 50))), told)
        # Each two unlike kinds, with each third one between.
        for a, b, c in itertools.permutations(range(4), 3):
            ways = replaced(replaced(((30,) * 4,) * 4, (a, c), 20), (c, b), 10)
            for gap, told in ((29, True), (30, True), (31, False)):
                self.told(make_meadow(gaps=replaced(ways, (a, b), gap)), told)

    def test_the_kinds_themselves_between(self):
        # Behind a the gap to a again, over b: 5 + 4 is less than 10.
        self.told(make_meadow(gaps=((9, 5), (4, 9))), True)
        self.told(make_meadow(gaps=((10, 5), (4, 9))), False)
        self.told(make_meadow(gaps=((9, 5), (4, 10))), False)

    def test_all_gaps_of_three_kinds_by_the_words(self):
        for numbers in itertools.product((1, 2, 3), repeat=9):
            gaps = (numbers[:3], numbers[3:6], numbers[6:])
            told = all(gaps[a][b] <= gaps[a][c] + gaps[c][b] for a, b, c in itertools.product(range(3), repeat=3))
            self.assertIs(is_meadow(make_meadow(gaps=gaps)), told, gaps)

    def test_stretches(self):
        for shuts, told in (
            ((), True), (((5, 6),), True), (((5, 5),), False), (((6, 5),), False),
            (((0, 1),), True), (((-1, 1),), False), (((9998, 9999),), True), (((9999, 10000),), False),
            (((9998, 10000),), False), (((0, BIG),), False), (((-BIG, 1),), False),
            (((1, 3), (4, 5)), True), (((1, 3), (3, 5)), False), (((1, 3), (2, 5)), False), (((4, 5), (1, 3)), False),
            (((1, 9), (3, 5)), False), (((1, 3), (1, 3)), False),
            (((1, 3), (5, 7), (7, 9)), False), (((1, 3), (5, 7), (8, 9)), True),
            (FOUR, True), (FOUR[:3] + ((24, 40),), False), (FOUR[:3] + ((25, 40),), False),
            (FOUR[:3] + ((26, 40),), True), (FOUR + ((40, 45),), False),
            (((5,),), False), (((5, 6, 7),), False), (((),), False), ((5, 6), False),
        ):
            self.told(make_meadow(shuts=shuts), told)

    def test_other_things_at_each_place(self):
        self.assertTrue(is_meadow(RICH))
        for path in all_paths(RICH):
            for thing in ODD:
                self.told(replaced(RICH, path, thing), False)

    def test_numbers_in_the_place_of_each_tuple(self):
        for path in tuple_paths(RICH):
            for thing in (0, 1, 5, BIG):
                self.told(replaced(RICH, path, thing), False)

    def test_lists_in_the_place_of_each_tuple(self):
        for path in tuple_paths(RICH):
            self.told(replaced(RICH, path, list(part_at(RICH, path))), False)

    def test_tuples_in_the_place_of_each_number(self):
        for path in number_paths(RICH):
            for thing in ((), (part_at(RICH, path),), str(part_at(RICH, path))):
                self.told(replaced(RICH, path, thing), False)

    def test_truths_that_are_numbers_to_python(self):
        small = (1, 1, ((1, 1), (1, 1)), ((0, 1),))
        self.told(small, True)
        for path in number_paths(small):
            self.told(replaced(small, path, bool(part_at(small, path))), False)

    def test_parts_left_out_or_one_too_many(self):
        for path in tuple_paths(RICH):
            part = part_at(RICH, path)
            self.told(replaced(RICH, path, part + (part[-1],)), False)
            # The shut stretches alone may be fewer.
            self.told(replaced(RICH, path, part[:-1]), path == (3,))
            self.told(replaced(RICH, path, part[1:]), path == (3,))
            self.told(replaced(RICH, path, ()), path == (3,))


class OpenFromTest(unittest.TestCase):
    def test_never_shut(self):
        for minute in (0, 7, 9999, 10000, -1, BIG, -BIG, 10 ** 29, -10 ** 29):
            self.assertEqual(open_from(make_meadow(), minute), minute)

    def test_around_each_stretch(self):
        meadow = make_meadow(shuts=((10, 20), (21, 22), (30, 40)))
        for minute, told in (
            (-5, -5), (0, 0), (9, 9), (10, 20), (11, 20), (19, 20), (20, 20), (21, 22), (22, 22), (23, 23), (29, 29),
            (30, 40), (35, 40), (39, 40), (40, 40), (41, 41), (9999, 9999), (10000, 10000),
            (10 ** 29, 10 ** 29), (-10 ** 29, -10 ** 29), (BIG, BIG), (-BIG, -BIG),
        ):
            with self.subTest(minute=minute):
                self.assertEqual(open_from(meadow, minute), told)

    def test_shut_all_along(self):
        meadow = make_meadow(shuts=((0, 9999),))
        for minute, told in ((-1, -1), (0, 9999), (9998, 9999), (9999, 9999)):
            self.assertEqual(open_from(meadow, minute), told)

    def test_by_the_words(self):
        for meadow in (RICH, make_meadow(shuts=FOUR), make_meadow(shuts=((0, 3), (4, 5), (6, 9), (11, 12)))):
            shut = [minute for begin, end in meadow[3] for minute in range(begin, end)]
            for minute in range(-3, 80):
                told = min(at for at in range(minute, 90) if at not in shut)
                self.assertEqual(open_from(meadow, minute), told)

    def test_no_meadow(self):
        for thing in ANYTHING + (list(RICH), RICH[:3], replaced(RICH, (0,), True)):
            for minute in (0, -1, BIG, None, "x", True, []):
                with self.assertRaises(NoMeadow):
                    open_from(thing, minute)


class PointTwoTest(unittest.TestCase):
    def test_nothing_is_changed_and_answers_stay(self):
        for thing in ANYTHING + (RICH,):
            before = copy.deepcopy(thing)
            self.assertIs(is_meadow(thing), is_meadow(thing))
            self.assertEqual(thing, before)
        before = copy.deepcopy(RICH)
        self.assertEqual([open_from(RICH, minute) for minute in range(70)],
                         [open_from(RICH, minute) for minute in range(70)])
        self.assertEqual(RICH, before)


if __name__ == "__main__":
    unittest.main()
