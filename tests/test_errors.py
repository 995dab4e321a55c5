import unittest

from evenring import errors
from evenring.errors import BadMost, BadRing, BadText, BadTolls, Lacking, RingError, Unlike


class ErrorsTest(unittest.TestCase):
    def test_ring_error_stands_straight_under_value_error(self):
        self.assertEqual(RingError.__bases__, (ValueError,))

    def test_each_refusal_stands_straight_under_ring_error(self):
        for kind in (BadRing, BadTolls, BadMost, Unlike, Lacking, BadText):
            with self.subTest(kind=kind.__name__):
                self.assertEqual(kind.__bases__, (RingError,))

    def test_the_refusals_are_six_classes(self):
        names = ["BadRing", "BadTolls", "BadMost", "Unlike", "Lacking", "BadText"]
        self.assertEqual(len({getattr(errors, name) for name in names}), 6)
        for name in names:
            self.assertEqual(getattr(errors, name).__name__, name)

    def test_lacking_has_its_total(self):
        for total in (5, -5, 1, -1000000, 10 ** 12, 10 ** 5000):
            refusal = Lacking(total)
            self.assertEqual(refusal.total, total)

    def test_each_lacking_has_a_total_of_its_own(self):
        one = Lacking(3)
        other = Lacking(-4)
        self.assertEqual((one.total, other.total), (3, -4))

    def test_refusals_are_raised_and_taken(self):
        for kind in (BadRing, BadTolls, BadMost, Unlike, BadText):
            with self.subTest(kind=kind.__name__), self.assertRaises(ValueError) as taken:
                raise kind("words")
            self.assertIsInstance(taken.exception, kind)
        with self.assertRaises(RingError) as taken:
            raise Lacking(7)
        self.assertEqual(taken.exception.total, 7)


if __name__ == "__main__":
    unittest.main()
