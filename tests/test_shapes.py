import unittest

from downrings.shapes import is_minute, is_tuple, is_whole, is_within
from tests.samples import BIG, ODD


class ShapesTest(unittest.TestCase):
    def test_whole(self):
        for thing in (0, 1, -1, BIG, -BIG):
            self.assertIs(is_whole(thing), True)
        for thing in ODD:
            self.assertIs(is_whole(thing), False)

    def test_within(self):
        for thing, told in ((2, False), (3, True), (5, True), (6, False), (True, False), ("4", False), (None, False)):
            self.assertIs(is_within(thing, 3, 5), told)
        self.assertIs(is_within(True, 0, 1), False)

    def test_minute(self):
        for thing, told in ((-1, False), (0, True), (9999, True), (10000, False), (False, False), ((0,), False)):
            self.assertIs(is_minute(thing), told)

    def test_tuple(self):
        for thing, told in (((), False), ((1,), True), ((1, 2), True), ((1, 2, 3), False), ([1], False), ("a", False)):
            self.assertIs(is_tuple(thing, 1, 2), told)


if __name__ == "__main__":
    unittest.main()
