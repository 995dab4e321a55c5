import unittest

from evenring.answers import Even, Uneven
from evenring.carrying import along, ends, least
from evenring.errors import BadTolls
from evenring.rings import Ring, together, turned
from tests.common import (
    NO_NUMBERS, RefusalTest, Strange, cost, even_rings, is_evened, mixed, mixed_even_ring, rings)

BOUND = 1000000
HIGHEST = 1000

# None of these is a toll, and none is a list of tolls either.
NO_TOLLS = NO_NUMBERS + [-1, HIGHEST + 1, -HIGHEST, 10 ** 30, -10 ** 30, Strange()]


def tried_carryings(houses, farthest):
    """All carryings that even the houses with no more than the farthest number over any bridge, tried one by one."""
    return [carried for carried in rings(len(houses), range(-farthest, farthest + 1)) if is_evened(houses, carried)]


def many_rings():
    """Rings with 0 in all of two houses, of some and of many, each with tolls of many sorts."""
    for count in (2, 3, 4, 5, 8, 13, 40, 301):
        for seed, most in ((1, 1), (2, 3), (3, 100), (4, BOUND)):
            houses = mixed_even_ring(count, seed + count, most)
            yield houses, [0] * count
            yield houses, [1] * count
            yield houses, [HIGHEST] * count
            yield houses, mixed(count, seed, 0, 1)
            yield houses, mixed(count, seed, 0, 4)
            yield houses, mixed(count, seed, HIGHEST - 5, HIGHEST)
            yield houses, mixed(count, seed, 0, HIGHEST)
            yield houses, [0] * (count - 1) + [7]
            yield houses, [7] + [0] * (count - 1)
            yield houses, [HIGHEST] * (count - 1) + [0]


class TollsTest(RefusalTest):
    def are_bad_tolls(self, call, ring, tolls):
        self.is_refused(BadTolls, call, ring, tolls)

    def refuses_what_are_no_tolls(self, call, ring):
        count = len(ring.houses())
        houses = ring.houses()
        for wrong in NO_TOLLS:
            self.are_bad_tolls(call, ring, wrong)
            for place in range(count):
                tolls = [1] * count
                tolls[place] = wrong
                self.are_bad_tolls(call, ring, tolls)
        walk = iter([1] * count)
        for wrong in ((1,) * count, "1" * count, dict.fromkeys(range(count)), set(range(count)), range(count), walk,
                      bytes(count), bytearray(count), ring, Ring, Strange(), None, 0, 1, count):
            self.are_bad_tolls(call, ring, wrong)
        self.assertEqual(list(walk), [1] * count)
        for other in (0, 1, count - 1, count + 1, 2 * count, 100):
            self.are_bad_tolls(call, ring, [1] * other)
            self.are_bad_tolls(call, ring, [0] * other)
        held = [1] * count
        held[0] = held
        self.are_bad_tolls(call, ring, held)
        self.assertEqual(ring.houses(), houses)


class AlongTest(RefusalTest):
    def test_ordinary(self):
        self.assertEqual(along(Ring([3, -3])), [3, 0])
        self.assertEqual(along(Ring([-3, 3])), [-3, 0])
        self.assertEqual(along(Ring([1, 2, -3])), [1, 3, 0])
        self.assertEqual(along(Ring([0, 0, 0, 0])), [0, 0, 0, 0])
        self.assertEqual(along(Ring([5, -9, 1, 3])), [5, -4, -3, 0])
        self.assertEqual(along(Ring([BOUND, BOUND, -BOUND, -BOUND])), [BOUND, 2 * BOUND, BOUND, 0])

    def test_house_by_house(self):
        for houses, tolls in many_rings():
            carried = along(Ring(houses))
            self.assertIs(type(carried), list)
            self.assertEqual(len(carried), len(houses))
            self.assertEqual(carried[-1], 0)
            self.assertEqual(carried[0], houses[0])
            for place in range(1, len(houses)):
                self.assertEqual(carried[place] - carried[place - 1], houses[place])
            self.assertTrue(is_evened(houses, carried))

    def test_there_is_just_one(self):
        for count in (2, 3):
            for houses in even_rings(count, range(-2, 3)):
                unused = [carried for carried in tried_carryings(houses, 4) if carried[-1] == 0]
                self.assertEqual([along(Ring(houses))], unused)

    def test_many_houses(self):
        carried = along(Ring([1, -1] * 20000))
        self.assertEqual(carried, [1, 0] * 20000)

    def test_lacking(self):
        for houses in ([1, 0], [0, -1], [1, 2, 3], [-BOUND] * 5, [BOUND] * 3, [5, -3, -1]):
            ring = Ring(houses)
            self.is_lacking(sum(houses), along, ring)
            self.assertEqual(ring.houses(), houses)

    def test_every_small_ring(self):
        for houses in rings(3, range(-2, 3)):
            if sum(houses) != 0:
                self.is_lacking(sum(houses), along, Ring(houses))
            else:
                self.assertEqual(along(Ring(houses)), [houses[0], houses[0] + houses[1], 0])

    def test_nothing_is_changed_and_what_is_told_is_new(self):
        ring = Ring([2, -1, -1])
        told = along(ring)
        told[0] = 99
        told.append(1)
        self.assertEqual(ring.houses(), [2, -1, -1])
        self.assertEqual(along(ring), [2, 1, 0])

    def test_the_argument_bears_its_name(self):
        self.assertEqual(along(ring=Ring([1, -1])), [1, 0])


class LeastTest(TollsTest):
    def is_even(self, houses, tolls):
        """An Even as the document tells, looked at here without asking the answer; its cost."""
        ring = Ring(houses)
        told = least(ring, tolls)
        self.assertIs(type(told), Even)
        for numbers in (told.carried, told.prices):
            self.assertIs(type(numbers), list)
            self.assertEqual(len(numbers), len(houses))
            self.assertTrue(all(type(number) is int for number in numbers))
        self.assertTrue(is_evened(houses, told.carried))
        for bridge, toll in enumerate(tolls):
            after = (bridge + 1) % len(houses)
            self.assertLessEqual(max(told.prices[bridge], told.prices[after]) - toll,
                                 min(told.prices[bridge], told.prices[after]))
        worth = sum(price * number for price, number in zip(told.prices, houses))
        self.assertEqual(worth, cost(told.carried, tolls))
        self.assertIs(told.shows(ring, tolls), True)
        self.assertIs(told.evens(ring), True)
        self.assertIs(Uneven(ring.whole()).shows(ring, tolls), False)
        return worth

    def test_ordinary(self):
        self.assertEqual(self.is_even([1, -1], [4, 9]), 4)
        self.assertEqual(self.is_even([1, -1], [9, 4]), 4)
        self.assertEqual(self.is_even([3, -1, -2], [1, 1, 1]), 3)
        self.assertEqual(self.is_even([3, -1, -2], [1, 1, 5]), 5)
        self.assertEqual(self.is_even([0, 0, 0], [1, 2, 3]), 0)
        self.assertEqual(self.is_even([1, 0, 0, -1], [1, 1, 1, 3]), 3)
        self.assertEqual(self.is_even([1, 0, 0, -1], [1, 1, 1, 4]), 3)
        self.assertEqual(self.is_even([1, 0, 0, -1], [1, 1, 1, 2]), 2)

    def test_the_one_carrying(self):
        self.assertEqual(least(Ring([1, -1]), [4, 9]).carried, [1, 0])
        self.assertEqual(least(Ring([1, -1]), [9, 4]).carried, [0, -1])
        self.assertEqual(least(Ring([3, -1, -2]), [1, 1, 1]).carried, [1, 0, -2])

    def test_rings_of_every_size_and_tolls_of_every_sort(self):
        for houses, tolls in many_rings():
            self.is_even(houses, tolls)

    def test_no_tried_carrying_costs_less(self):
        for count, numbers, farthest in ((2, range(-4, 5), 8), (3, range(-2, 3), 4)):
            for houses in even_rings(count, numbers):
                tried = tried_carryings(houses, farthest)
                for tolls in rings(count, (0, 1, 2, 5, HIGHEST)):
                    wanted = min(cost(carried, tolls) for carried in tried)
                    self.assertEqual(self.is_even(houses, tolls), wanted)

    def test_no_tried_carrying_costs_less_with_four_houses(self):
        for houses in even_rings(4, (-1, 0, 1)):
            tried = tried_carryings(houses, 3)
            for tolls in rings(4, (0, 1, 3)):
                wanted = min(cost(carried, tolls) for carried in tried)
                self.assertEqual(self.is_even(houses, tolls), wanted)

    def test_no_number_over_the_last_bridge_costs_less(self):
        for count in (5, 9, 20):
            for seed in range(20):
                houses = mixed_even_ring(count, seed, 6)
                tolls = mixed(count, seed + 99, 0, 1 + seed)
                row = along(Ring(houses))
                farthest = 6 * count
                wanted = min(cost([amount + last for amount in row], tolls)
                             for last in range(-farthest, farthest + 1))
                self.assertEqual(self.is_even(houses, tolls), wanted)

    def test_all_tolls_0(self):
        for houses in even_rings(3, range(-2, 3)):
            self.assertEqual(self.is_even(houses, [0, 0, 0]), 0)

    def test_a_bridge_without_toll_is_used_for_nothing(self):
        self.assertEqual(self.is_even([5, -5], [0, HIGHEST]), 0)
        self.assertEqual(self.is_even([5, -5], [HIGHEST, 0]), 0)
        self.assertEqual(self.is_even([5, 0, -5], [3, 0, HIGHEST]), 15)

    def test_the_bounds(self):
        self.assertEqual(self.is_even([BOUND, -BOUND], [HIGHEST, HIGHEST]), BOUND * HIGHEST)
        self.assertEqual(self.is_even([BOUND, BOUND, -BOUND, -BOUND], [HIGHEST] * 4), 2 * BOUND * HIGHEST)
        self.assertEqual(self.is_even([BOUND, -BOUND], [0, HIGHEST]), 0)

    def test_many_houses(self):
        houses = mixed_even_ring(30000, 8, BOUND)
        self.is_even(houses, mixed(30000, 9, 0, HIGHEST))
        self.assertEqual(self.is_even([1, -1] * 10000, [1] * 20000), 10000)
        self.assertEqual(self.is_even([1] + [0] * 9999 + [-1] + [0] * 9999, [1] * 20000), 10000)

    def test_a_turned_ring_costs_the_same(self):
        for seed in range(10):
            houses = mixed_even_ring(7, seed, 20)
            tolls = mixed(7, seed, 0, 9)
            wanted = self.is_even(houses, tolls)
            for by in range(1, 7):
                self.assertEqual(self.is_even(turned(Ring(houses), by).houses(), tolls[by:] + tolls[:by]), wanted)

    def test_carryings_put_together_even_the_rings_put_together(self):
        tolls = [3, 1, 4, 1, 5]
        for seed in range(10):
            one = Ring(mixed_even_ring(5, seed, 9))
            other = Ring(mixed_even_ring(5, seed + 50, 9))
            carried = [mine + yours for mine, yours in zip(least(one, tolls).carried, least(other, tolls).carried)]
            self.assertTrue(Even(carried, []).evens(together(one, other)))

    def test_uneven(self):
        for houses in ([1, 0], [0, -1], [1, 2, 3], [-BOUND] * 5, [BOUND] * 3, [5, -3, -1]):
            for tolls in ([0] * len(houses), [1] * len(houses), [HIGHEST] * len(houses)):
                ring = Ring(houses)
                told = least(ring, tolls)
                self.assertIs(type(told), Uneven)
                self.assertEqual(told.total, sum(houses))
                self.assertIs(told.shows(ring, tolls), True)

    def test_one_of_two_things_for_every_small_ring(self):
        for houses in rings(3, range(-2, 3)):
            told = least(Ring(houses), [1, 0, 2])
            self.assertIs(type(told), Uneven if sum(houses) else Even)
            self.assertIs(told.shows(Ring(houses), [1, 0, 2]), True)

    def test_what_are_no_tolls(self):
        for houses in ([1, -1], [2, -1, -1], [0, 0]):
            self.refuses_what_are_no_tolls(least, Ring(houses))

    def test_what_are_no_tolls_of_an_uneven_ring(self):
        self.refuses_what_are_no_tolls(least, Ring([1, 1]))
        self.refuses_what_are_no_tolls(least, Ring([0, 0, -1]))

    def test_what_is_handed_in_is_neither_changed_nor_kept(self):
        ring = Ring([2, -1, -1])
        tolls = [5, 1, 3]
        told = least(ring, tolls)
        carried, prices = list(told.carried), list(told.prices)
        self.assertEqual((ring.houses(), tolls), ([2, -1, -1], [5, 1, 3]))
        tolls[0] = 77
        tolls.append(4)
        self.assertEqual((told.carried, told.prices), (carried, prices))

    def test_what_is_told_is_new(self):
        for houses, tolls in (([2, -1, -1], [5, 1, 3]), ([0, 0], [0, 0]), ([1, -1], [0, 1])):
            ring = Ring(houses)
            handed_in = list(tolls)
            told = least(ring, handed_in)
            again = least(ring, handed_in)
            carried, prices = list(again.carried), list(again.prices)
            self.assertIsNot(told.carried, told.prices)
            told.carried[0] += 50
            told.carried.append(1)
            self.assertEqual(told.prices, prices)
            told.prices[0] -= 60
            told.prices.clear()
            self.assertEqual((ring.houses(), handed_in), (houses, tolls))
            self.assertEqual((again.carried, again.prices), (carried, prices))
            newest = least(ring, handed_in)
            self.assertEqual((newest.carried, newest.prices), (carried, prices))

    def test_refused_tolls_stay_as_they_were(self):
        tolls = [1, HIGHEST + 1]
        self.are_bad_tolls(least, Ring([1, -1]), tolls)
        self.assertEqual(tolls, [1, HIGHEST + 1])

    def test_the_arguments_bear_their_names(self):
        self.assertIs(type(least(ring=Ring([1, -1]), tolls=[1, 1])), Even)


class EndsTest(TollsTest):
    def check(self, houses, tolls, wanted):
        told = ends(Ring(houses), tolls)
        self.assertIs(type(told), tuple)
        self.assertEqual(told, wanted)
        self.assertTrue(all(type(number) is int for number in told))

    def test_ordinary(self):
        self.check([3, -1, -2], [1, 1, 1], (-2, -2))
        self.check([3, -1, -2], [1, 1, 5], (0, 0))
        self.check([1, -1], [4, 9], (0, 0))
        self.check([1, -1], [9, 4], (-1, -1))
        self.check([0, 0, 0], [1, 1, 1], (0, 0))

    def test_two_ways_that_cost_the_same(self):
        self.check([4, -4], [1, 1], (-4, 0))
        self.check([-4, 4], [1, 1], (0, 4))
        self.check([4, -4], [HIGHEST, HIGHEST], (-4, 0))
        self.check([1, 0, 0, -1], [1, 1, 1, 3], (-1, 0))
        self.check([BOUND, -BOUND], [7, 7], (-BOUND, 0))

    def test_tolls_of_which_some_are_0(self):
        self.check([4, -4], [0, 3], (0, 0))
        self.check([4, -4], [3, 0], (-4, -4))
        self.check([4, 1, -5], [2, 0, 2], (-4, 0))
        self.check([4, 1, -5], [0, 2, 0], (-5, -5))
        self.check([4, 1, -5], [2, 2, 0], (-5, -4))

    def test_all_carryings_tried_one_by_one(self):
        for count, numbers, farthest in ((2, range(-4, 5), 9), (3, range(-2, 3), 5)):
            for houses in even_rings(count, numbers):
                tried = tried_carryings(houses, farthest)
                for tolls in rings(count, (0, 1, 2, 5, HIGHEST)):
                    if any(tolls):
                        lowest = min(cost(carried, tolls) for carried in tried)
                        over_last = [carried[-1] for carried in tried if cost(carried, tolls) == lowest]
                        self.check(houses, tolls, (min(over_last), max(over_last)))

    def test_four_houses_tried_one_by_one(self):
        for houses in even_rings(4, (-1, 0, 1)):
            tried = tried_carryings(houses, 3)
            for tolls in rings(4, (0, 1, 3)):
                if any(tolls):
                    lowest = min(cost(carried, tolls) for carried in tried)
                    over_last = [carried[-1] for carried in tried if cost(carried, tolls) == lowest]
                    self.check(houses, tolls, (min(over_last), max(over_last)))

    def test_those_of_the_least_cost_are_just_those_from_one_to_the_other(self):
        wide = 0
        for count in (5, 8, 12):
            for seed in range(30):
                houses = mixed_even_ring(count, seed, 5)
                tolls = mixed(count, seed + 7, 0, 2)
                row = along(Ring(houses))
                low, high = ends(Ring(houses), tolls)
                wide += low < high
                lowest = cost(least(Ring(houses), tolls).carried, tolls)
                farthest = 6 * count
                for last in range(-farthest, farthest + 1):
                    over = cost([amount + last for amount in row], tolls)
                    self.assertEqual(over == lowest, low <= last <= high)
                    self.assertGreaterEqual(over, lowest)
        self.assertGreater(wide, 5)

    def test_rings_of_every_size_and_tolls_of_every_sort(self):
        for houses, tolls in many_rings():
            if not any(tolls):
                continue
            row = along(Ring(houses))
            low, high = ends(Ring(houses), tolls)
            told = least(Ring(houses), tolls)
            lowest = cost(told.carried, tolls)
            for last in (low, (low + high) // 2, high):
                self.assertEqual(cost([amount + last for amount in row], tolls), lowest)
            for last in (low - 1, high + 1):
                self.assertGreater(cost([amount + last for amount in row], tolls), lowest)
            self.assertTrue(low <= told.carried[-1] <= high)

    def test_many_houses(self):
        self.check([1, -1] * 10000, [1] * 20000, (-1, 0))
        self.check([1, -1] * 10000, [1, 2] * 10000, (0, 0))

    def test_what_are_no_tolls(self):
        for houses in ([1, -1], [2, -1, -1], [0, 0]):
            self.refuses_what_are_no_tolls(ends, Ring(houses))

    def test_what_are_no_tolls_ahead_of_lacking(self):
        self.refuses_what_are_no_tolls(ends, Ring([1, 1]))
        self.refuses_what_are_no_tolls(ends, Ring([0, 0, -1]))

    def test_lacking(self):
        for houses in ([1, 0], [0, -1], [1, 2, 3], [-BOUND] * 5, [BOUND] * 3):
            for tolls in ([1] * len(houses), [HIGHEST] * len(houses), [0] * (len(houses) - 1) + [1]):
                self.is_lacking(sum(houses), ends, Ring(houses), tolls)

    def test_lacking_ahead_of_tolls_that_are_all_0(self):
        for houses in ([1, 0], [0, -1], [1, 2, 3]):
            self.is_lacking(sum(houses), ends, Ring(houses), [0] * len(houses))

    def test_tolls_that_are_all_0(self):
        for houses in ([1, -1], [0, 0], [1, 2, -3], [0] * 50):
            self.are_bad_tolls(ends, Ring(houses), [0] * len(houses))

    def test_nothing_handed_in_is_changed(self):
        ring = Ring([4, 1, -5])
        tolls = [2, 0, 2]
        self.assertEqual(ends(ring, tolls), (-4, 0))
        self.assertEqual((ring.houses(), tolls), ([4, 1, -5], [2, 0, 2]))
        tolls[1] = 9
        self.assertEqual(ends(ring, [2, 0, 2]), (-4, 0))

    def test_the_arguments_bear_their_names(self):
        self.assertEqual(ends(ring=Ring([4, -4]), tolls=[1, 1]), (-4, 0))


if __name__ == "__main__":
    unittest.main()
