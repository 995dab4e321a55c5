import itertools
import unittest

from evenring.errors import BadMost, BadRing, Unlike
from evenring.rings import Ring, together, turned
from tests.common import NO_NUMBERS, Strange

BOUND = 1000000


class RingTest(unittest.TestCase):
    def test_houses_are_told_as_handed_in(self):
        for houses in ([1, -1], [0, 0], [3, 1, -4], [5, 5, 5], [-2, 7, 0, 0, -5]):
            told = Ring(houses).houses()
            self.assertEqual(told, houses)
            self.assertIs(type(told), list)

    def test_every_small_ring(self):
        for count in (2, 3):
            for houses in itertools.product(range(-2, 3), repeat=count):
                self.assertEqual(Ring(list(houses)).houses(), list(houses))

    def test_many_houses(self):
        houses = [k % 7 - 3 for k in range(50000)]
        ring = Ring(houses)
        self.assertEqual(ring.houses(), houses)
        self.assertEqual(ring.whole(), sum(houses))

    def test_the_bounds(self):
        for houses in ([BOUND, 0], [0, BOUND], [-BOUND, 0], [0, -BOUND], [BOUND, -BOUND, BOUND]):
            self.assertEqual(Ring(houses).houses(), houses)

    def test_beyond_the_bounds(self):
        for number in (BOUND + 1, -BOUND - 1, 10 ** 30, -10 ** 30):
            for houses in ([number, 0], [0, number], [1, number, 2]):
                with self.subTest(houses=houses), self.assertRaises(BadRing):
                    Ring(houses)

    def test_too_few_houses(self):
        for houses in ([], [0], [5]):
            with self.subTest(houses=houses), self.assertRaises(BadRing):
                Ring(houses)

    def test_what_is_no_number_as_a_house(self):
        for wrong in NO_NUMBERS + [Strange()]:
            for houses in ([wrong, 0], [0, wrong], [1, wrong, 2], [wrong, wrong]):
                with self.assertRaises(BadRing):
                    Ring(houses)

    def test_what_is_no_list(self):
        walk = iter([1, -1])
        for wrong in NO_NUMBERS + [0, 1, -1, (1, -1), "12", {1: 2, -1: 3}, {1, -1}, frozenset([1, -1]), range(3),
                                   b"\x01\x02", bytearray(b"\x01\x02"), walk, Strange(), Ring, Ring([1, -1])]:
            if isinstance(wrong, list):
                continue
            with self.assertRaises(BadRing):
                Ring(wrong)
        self.assertEqual(list(walk), [1, -1])

    def test_a_list_that_holds_itself(self):
        houses = [1, 2]
        houses.append(houses)
        with self.assertRaises(BadRing):
            Ring(houses)

    def test_what_is_handed_in_is_neither_changed_nor_kept(self):
        houses = [4, -1, -3]
        ring = Ring(houses)
        self.assertEqual(houses, [4, -1, -3])
        houses[0] = 9
        houses.append(1)
        self.assertEqual(ring.houses(), [4, -1, -3])
        self.assertEqual(ring.whole(), 0)

    def test_what_is_told_is_new(self):
        ring = Ring([4, -1, -3])
        told = ring.houses()
        told[1] = 100
        told.append(7)
        self.assertEqual(ring.houses(), [4, -1, -3])
        self.assertEqual(ring.whole(), 0)
        self.assertIsNot(ring.houses(), ring.houses())

    def test_a_refused_list_stays_as_it_was(self):
        houses = [1, BOUND + 1]
        with self.assertRaises(BadRing):
            Ring(houses)
        self.assertEqual(houses, [1, BOUND + 1])

    def test_whole(self):
        self.assertEqual(Ring([1, -1]).whole(), 0)
        self.assertEqual(Ring([3, 1, -5]).whole(), -1)
        self.assertEqual(Ring([0, 0]).whole(), 0)
        self.assertEqual(Ring([BOUND, BOUND, BOUND]).whole(), 3 * BOUND)
        self.assertEqual(Ring([-BOUND] * 1000).whole(), -1000 * BOUND)

    def test_the_argument_bears_its_name(self):
        self.assertEqual(Ring(houses=[2, -2]).houses(), [2, -2])


class TurnedTest(unittest.TestCase):
    def check(self, houses, by, wanted):
        ring = Ring(houses)
        told = turned(ring, by)
        self.assertIsInstance(told, Ring)
        self.assertIsNot(told, ring)
        self.assertEqual(told.houses(), wanted)
        self.assertEqual(ring.houses(), houses)

    def test_by_nought(self):
        self.check([1, 2, 3], 0, [1, 2, 3])

    def test_by_one(self):
        self.check([1, 2, 3], 1, [2, 3, 1])

    def test_two_houses(self):
        self.check([8, 9], 1, [9, 8])
        self.check([8, 9], -1, [9, 8])
        self.check([8, 9], 2, [8, 9])

    def test_below_nought(self):
        self.check([1, 2, 3, 4], -1, [4, 1, 2, 3])
        self.check([1, 2, 3, 4], -3, [2, 3, 4, 1])
        self.check([1, 2, 3, 4], -4, [1, 2, 3, 4])
        self.check([1, 2, 3, 4], -5, [4, 1, 2, 3])

    def test_as_many_as_there_are_and_more(self):
        self.check([1, 2, 3], 3, [1, 2, 3])
        self.check([1, 2, 3], 4, [2, 3, 1])
        self.check([1, 2, 3], 8, [3, 1, 2])
        self.check([1, 2, 3], 10 ** 40 * 3 + 2, [3, 1, 2])
        self.check([1, 2, 3], -10 ** 40 * 3 - 1, [3, 1, 2])

    def test_the_first_house_is_the_one_that_many_places_on(self):
        houses = [10, 11, 12, 13, 14]
        for by in range(-12, 13):
            told = turned(Ring(houses), by).houses()
            for place in range(5):
                self.assertEqual(told[place], houses[(place + by) % 5])

    def test_what_is_no_whole_number(self):
        ring = Ring([1, 2, 3])
        for wrong in NO_NUMBERS + [Strange()]:
            with self.assertRaises(BadMost):
                turned(ring, wrong)
        self.assertEqual(ring.houses(), [1, 2, 3])

    def test_the_turned_ring_stands_by_itself(self):
        ring = Ring([1, 2, 3])
        told = turned(ring, 0)
        told.houses().append(5)
        self.assertEqual(told.houses(), [1, 2, 3])
        self.assertEqual(ring.houses(), [1, 2, 3])

    def test_the_arguments_bear_their_names(self):
        self.assertEqual(turned(ring=Ring([1, 2, 3]), by=2).houses(), [3, 1, 2])


class TogetherTest(unittest.TestCase):
    def test_house_by_house(self):
        told = together(Ring([1, 2, -3]), Ring([10, -20, 30]))
        self.assertIsInstance(told, Ring)
        self.assertEqual(told.houses(), [11, -18, 27])

    def test_every_pair_of_small_rings(self):
        rings = [list(houses) for houses in itertools.product((-1, 0, 2), repeat=2)]
        for one in rings:
            for other in rings:
                told = together(Ring(one), Ring(other)).houses()
                self.assertEqual(told, [one[0] + other[0], one[1] + other[1]])

    def test_both_rings_stay(self):
        one = Ring([1, 2])
        other = Ring([3, 4])
        told = together(one, other)
        self.assertEqual((one.houses(), other.houses()), ([1, 2], [3, 4]))
        self.assertIsNot(told, one)
        self.assertIsNot(told, other)

    def test_a_ring_with_itself(self):
        ring = Ring([1, -2])
        self.assertEqual(together(ring, ring).houses(), [2, -4])
        self.assertEqual(ring.houses(), [1, -2])

    def test_other_counts(self):
        for one, other in (([1, 2], [1, 2, 3]), ([1, 2, 3], [1, 2]), ([0] * 9, [0] * 10)):
            with self.subTest(one=one, other=other), self.assertRaises(Unlike):
                together(Ring(one), Ring(other))

    def test_a_sum_at_the_bounds(self):
        self.assertEqual(together(Ring([BOUND - 1, 0]), Ring([1, 0])).houses(), [BOUND, 0])
        self.assertEqual(together(Ring([0, 1 - BOUND]), Ring([0, -1])).houses(), [0, -BOUND])
        self.assertEqual(together(Ring([BOUND, -BOUND]), Ring([-BOUND, BOUND])).houses(), [0, 0])

    def test_a_sum_just_beyond_the_bounds(self):
        for one, other in (([BOUND, 0], [1, 0]), ([0, -BOUND], [0, -1]), ([BOUND, BOUND], [BOUND, BOUND])):
            first = Ring(one)
            second = Ring(other)
            with self.subTest(one=one, other=other), self.assertRaises(Unlike):
                together(first, second)
            self.assertEqual((first.houses(), second.houses()), (one, other))

    def test_what_is_no_ring(self):
        ring = Ring([1, -1])
        for wrong in (None, True, 0, 2, "12", [1, -1], (1, -1), {}, Ring, Strange()):
            with self.assertRaises(Unlike):
                together(ring, wrong)
            with self.assertRaises(Unlike):
                together(wrong, ring)

    def test_the_arguments_bear_their_names(self):
        self.assertEqual(together(one=Ring([1, 2]), other=Ring([3, 4])).houses(), [4, 6])


if __name__ == "__main__":
    unittest.main()
