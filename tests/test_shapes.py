import unittest

from downrings.shapes import are_rising, are_unlike, is_minute, is_tuple, is_whole, is_within, lots_of, number_in, without
from tests.samples import BIG, ODD


class ShapesTest(unittest.TestCase):
    def test_whole(self):
        for thing in (0, 1, -1, BIG, -BIG):
            self.assertIs(is_whole(thing), True)
        for thing in ODD:
            self.assertIs(is_whole(thing), False)

    def test_within(self):
        for thing, told in ((2, False), (3, True), (5, True), (6, False), (True, False), ("4", False), (None, False)):
            self.assertIs(is_within(thing, 3, 5), told)
        self.assertIs(is_within(True, 0, 1), False)

    def test_minute(self):
        for thing, told in ((-1, False), (0, True), (9999, True), (10000, False), (False, False), ((0,), False)):
            self.assertIs(is_minute(thing), told)

    def test_tuple(self):
        for thing, told in (((), False), ((1,), True), ((1, 2), True), ((1, 2, 3), False), ([1], False), ("a", False)):
            self.assertIs(is_tuple(thing, 1, 2), told)

    def test_unlike_and_rising_numbers(self):
        for thing, unlike, rising in (
            ((), True, True), ((0,), True, True), ((2,), True, True), ((0, 2), True, True), ((2, 0), True, False),
            ((0, 1, 2), True, True), ((1, 0, 2), True, False), ((0, 0), False, False), ((1, 1, 2), False, False),
            ((3,), False, False), ((-1,), False, False), ((0, 1, 2, 3), False, False), ((True,), False, False),
            ((0, True), False, False), ((None,), False, False), (((0,),), False, False), ([0], False, False),
        ):
            self.assertIs(are_unlike(thing, 3), unlike, thing)
            self.assertIs(are_rising(thing, 3), rising, thing)
        for thing in ODD:
            self.assertIs(are_unlike(thing, 3), False)
            self.assertIs(are_rising(thing, 3), False)

    def test_numbers_in_words(self):
        for word, number in (("0", 0), ("1", 1), ("9", 9), ("10", 10), ("9999", 9999), ("9" * 40, BIG)):
            self.assertEqual(number_in(word), number)
        for word in ("", "00", "01", "-1", "+1", " 1", "1 ", "1\n", "1\t", "a", "1a", "1.0", "1_0", "9" * 41, "0" * 41,
                     "9" * 5000, "\u0663", "\u00b2"):
            self.assertIsNone(number_in(word), word)

    def test_without(self):
        self.assertEqual(without((3, 1, 2), 1), (3, 2))
        self.assertEqual(without((1,), 1), ())

    def test_lots(self):
        self.assertEqual(lots_of(()), [()])
        self.assertEqual(sorted(lots_of((1, 4, 6))), [(), (1,), (1, 4), (1, 4, 6), (1, 6), (4,), (4, 6), (6,)])
        lots = lots_of(range(7))
        self.assertEqual(len(set(lots)), 128)
        for at, lot in enumerate(lots):
            self.assertEqual(list(lot), sorted(lot))
            self.assertFalse(any(set(later) < set(lot) for later in lots[at:]))


if __name__ == "__main__":
    unittest.main()
