import unittest

from evenring.answers import Stretch, Within
from evenring.bounds import widest, within
from evenring.errors import BadMost
from evenring.rings import Ring, turned
from tests.common import NO_NUMBERS, RefusalTest, Strange, even_rings, is_evened, mixed_even_ring, rings

BOUND = 1000000
UNEVEN = ([1, 0], [0, -1], [1, 2, 3], [-BOUND] * 5, [BOUND] * 3, [5, -3, -1])


def many_rings():
    for count in (2, 3, 4, 5, 8, 13, 40, 301):
        for seed, most in ((1, 1), (2, 3), (3, 100), (4, BOUND), (5, BOUND)):
            yield mixed_even_ring(count, seed + count, most)


class BoundsTest(RefusalTest):
    def is_within(self, houses, most):
        ring = Ring(houses)
        told = within(ring, most)
        self.assertIs(type(told), Within)
        self.assertIs(type(told.carried), list)
        self.assertTrue(all(type(amount) is int for amount in told.carried))
        self.assertEqual(len(told.carried), len(houses))
        self.assertTrue(is_evened(houses, told.carried))
        self.assertTrue(all(-most <= amount <= most for amount in told.carried))
        self.assertIs(told.shows(ring, most), True)

    def is_stretch(self, houses, most):
        ring = Ring(houses)
        told = within(ring, most)
        self.assertIs(type(told), Stretch)
        self.assertEqual((type(told.first), type(told.many)), (int, int))
        self.assertIn(told.first, range(len(houses)))
        self.assertIn(told.many, range(len(houses)))
        over = sum(houses[(told.first + step) % len(houses)] for step in range(told.many))
        self.assertGreater(max(over, -over), 2 * most)
        self.assertIs(told.shows(ring, most), True)

    def is_bad_most(self, ring, most):
        self.is_refused(BadMost, within, ring, most)


class WithinTest(BoundsTest):
    def test_ordinary(self):
        self.is_within([3, -1, -2], 2)
        self.is_stretch([3, -1, -2], 1)
        self.is_within([4, -4], 2)
        self.is_stretch([4, -4], 1)
        self.is_within([5, -5], 3)
        self.is_stretch([5, -5], 2)
        self.is_within([-5, 5], 3)
        self.is_stretch([-5, 5], 2)

    def test_what_is_over_behind_the_end_of_the_ring(self):
        self.is_stretch([3, -9, 1, 5], 4)
        self.is_within([3, -9, 1, 5], 5)
        self.is_stretch([-9, 1, 5, 3], 4)
        self.is_within([-9, 1, 5, 3], 5)

    def test_nothing_to_carry(self):
        for count in (2, 3, 50):
            for most in (0, 1, 10 ** 30):
                self.is_within([0] * count, most)

    def test_0_over_each_bridge(self):
        self.is_stretch([1, -1], 0)
        self.is_stretch([0, 0, -1, 1], 0)
        self.is_stretch([1, 0, 0, -1], 0)

    def test_small_rings_with_all_carryings_tried_one_by_one(self):
        for count in (2, 3):
            for houses in even_rings(count, range(-4, 5)):
                for most in range(5):
                    if any(is_evened(houses, carried) for carried in rings(count, range(-most, most + 1))):
                        self.is_within(houses, most)
                    else:
                        self.is_stretch(houses, most)

    def test_four_houses_with_all_carryings_tried_one_by_one(self):
        for houses in even_rings(4, (-2, -1, 0, 1, 2)):
            for most in range(3):
                if any(is_evened(houses, carried) for carried in rings(4, range(-most, most + 1))):
                    self.is_within(houses, most)
                else:
                    self.is_stretch(houses, most)

    def test_rings_of_every_size(self):
        for houses in many_rings():
            wide = widest(Ring(houses))
            for most in (wide, wide + 1, 2 * wide, wide + 10 ** 9):
                self.is_within(houses, most)
            for most in (0, 1, wide // 2, wide - 1):
                if 0 <= most < wide:
                    self.is_stretch(houses, most)

    def test_turned_rings(self):
        for houses in ([3, -9, 1, 5], [2, -1, -1, 0, 0], [7, 7, -7, -7, 1, -1]):
            wide = widest(Ring(houses))
            for by in range(len(houses)):
                other = turned(Ring(houses), by).houses()
                self.is_within(other, wide)
                self.is_stretch(other, wide - 1)

    def test_many_houses(self):
        houses = [1] * 10000 + [-1] * 10000
        self.is_within(houses, 5000)
        self.is_stretch(houses, 4999)
        self.is_stretch(houses, 0)
        houses = mixed_even_ring(30000, 6, BOUND)
        wide = widest(Ring(houses))
        self.is_within(houses, wide)
        self.is_stretch(houses, wide - 1)

    def test_the_bounds(self):
        self.is_within([BOUND, -BOUND], BOUND // 2)
        self.is_stretch([BOUND, -BOUND], BOUND // 2 - 1)
        self.is_within([BOUND, -BOUND], 10 ** 40)

    def test_what_is_no_whole_number_from_0_on(self):
        for houses in ([1, -1], [0, 0], [2, 3, -5]):
            ring = Ring(houses)
            for wrong in NO_NUMBERS + [Strange(), -1, -2, -10 ** 30]:
                self.is_bad_most(ring, wrong)
            self.assertEqual(ring.houses(), houses)

    def test_bad_most_ahead_of_lacking(self):
        for houses in UNEVEN:
            for wrong in NO_NUMBERS + [Strange(), -1, -2, -10 ** 30]:
                self.is_bad_most(Ring(houses), wrong)

    def test_lacking(self):
        for houses in UNEVEN:
            ring = Ring(houses)
            for most in (0, 1, 10 ** 9):
                self.is_lacking(sum(houses), within, ring, most)
            self.assertEqual(ring.houses(), houses)

    def test_nothing_is_changed_and_what_is_told_is_new(self):
        ring = Ring([3, -1, -2])
        told = within(ring, 2)
        again = within(ring, 2)
        carried = list(again.carried)
        told.carried[0] += 9
        told.carried.append(1)
        self.assertEqual(ring.houses(), [3, -1, -2])
        self.assertEqual(again.carried, carried)
        self.assertEqual(within(ring, 2).carried, carried)
        stretch = within(ring, 1)
        first, many = stretch.first, stretch.many
        stretch.first = stretch.many = 17
        self.assertEqual((within(ring, 1).first, within(ring, 1).many), (first, many))
        self.assertEqual(ring.houses(), [3, -1, -2])

    def test_the_arguments_bear_their_names(self):
        self.assertIs(type(within(ring=Ring([1, -1]), most=1)), Within)


class WidestTest(BoundsTest):
    def test_ordinary(self):
        for houses, wanted in (([0, 0], 0), ([1, -1], 1), ([2, -2], 1), ([3, -3], 2), ([-3, 3], 2), ([-4, 4], 2),
                               ([3, -1, -2], 2), ([3, -9, 1, 5], 5), ([1, -1] * 5, 1), ([2, -2] * 5, 1),
                               ([0] * 9, 0), ([BOUND, BOUND, -BOUND, -BOUND], BOUND), ([BOUND, -BOUND], BOUND // 2)):
            told = widest(Ring(houses))
            self.assertEqual(told, wanted, houses)
            self.assertIs(type(told), int)

    def test_the_least_number_with_a_within_and_one_less_has_a_stretch(self):
        for houses in list(many_rings()) + even_rings(3, range(-3, 4)):
            wide = widest(Ring(houses))
            self.assertGreaterEqual(wide, 0)
            self.is_within(houses, wide)
            if wide > 0:
                self.is_stretch(houses, wide - 1)

    def test_all_carryings_tried_one_by_one(self):
        for count in (2, 3):
            for houses in even_rings(count, range(-3, 4)):
                tried = [carried for carried in rings(count, range(-4, 5)) if is_evened(houses, carried)]
                wanted = min(max(abs(amount) for amount in carried) for carried in tried)
                self.assertEqual(widest(Ring(houses)), wanted)

    def test_many_houses(self):
        self.assertEqual(widest(Ring([1] * 10001 + [-1] * 10001)), 5001)

    def test_lacking(self):
        for houses in UNEVEN:
            ring = Ring(houses)
            self.is_lacking(sum(houses), widest, ring)
            self.assertEqual(ring.houses(), houses)

    def test_nothing_handed_in_is_changed(self):
        ring = Ring([3, -1, -2])
        widest(ring)
        self.assertEqual(ring.houses(), [3, -1, -2])

    def test_the_argument_bears_its_name(self):
        self.assertEqual(widest(ring=Ring([3, -3])), 2)


if __name__ == "__main__":
    unittest.main()
