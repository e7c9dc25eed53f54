import unittest

from downrings import errors
from downrings.errors import NoWay, RingError

WITH_TEXT = (
    "NoMeadow", "NoSky", "NoLandings", "NoOrder", "NoLot", "NoText", "NoName", "NoGlider", "NoMinute", "NoAim",
    "TooMany", "Bound", "NoDeed", "NoRow",
)
ALL = WITH_TEXT + ("NoWay",)


class ErrorsTest(unittest.TestCase):
    def test_ring_error_is_straight_under_value_error(self):
        self.assertEqual(RingError.__bases__, (ValueError,))

    def test_each_is_straight_under_ring_error(self):
        self.assertEqual(len(set(ALL)), 15)
        for name in ALL:
            with self.subTest(name=name):
                self.assertEqual(getattr(errors, name).__bases__, (RingError,))

    def test_none_is_another_one(self):
        for name in ALL:
            for other in ALL:
                with self.subTest(name=name, other=other):
                    self.assertEqual(issubclass(getattr(errors, name), getattr(errors, other)), name == other)

    def test_each_is_made_with_a_text(self):
        for name in WITH_TEXT:
            with self.subTest(name=name):
                made = getattr(errors, name)("why so")
                self.assertIsInstance(made, RingError)
                self.assertIsInstance(made, ValueError)
                self.assertEqual(str(made), "why so")

    def test_no_way_has_the_field_stuck(self):
        for stuck in ((), ("a",), ("ab", "cd")):
            made = NoWay(stuck)
            self.assertIsInstance(made, RingError)
            self.assertEqual(made.stuck, stuck)
            self.assertIsInstance(made.stuck, tuple)
            self.assertIsInstance(str(made), str)


if __name__ == "__main__":
    unittest.main()
