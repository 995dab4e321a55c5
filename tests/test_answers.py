import itertools
import unittest

from evenring import answers
from evenring.answers import Answer, Even, Stretch, Uneven, Within
from evenring.rings import Ring, together, turned
from tests.common import cost, is_evened, rings


class TruthTest(unittest.TestCase):
    """Truths are asked to be True or False themselves, not what merely counts as such."""

    def is_so(self, told):
        self.assertIs(told, True)

    def is_not_so(self, told):
        self.assertIs(told, False)

    def is_as(self, told, wanted):
        self.assertIs(type(told), bool)
        self.assertEqual(told, wanted)


class ClassesTest(unittest.TestCase):
    def test_each_answer_stands_straight_under_answer(self):
        for kind in (Even, Uneven, Within, Stretch):
            self.assertEqual(kind.__bases__, (Answer,))
        self.assertIs(answers.Answer, Answer)

    def test_the_fields(self):
        even = Even([1, -2], [3, 4])
        self.assertEqual((even.carried, even.prices), ([1, -2], [3, 4]))
        self.assertEqual(Uneven(-5).total, -5)
        self.assertEqual(Within([6, 7, 8]).carried, [6, 7, 8])
        stretch = Stretch(2, 3)
        self.assertEqual((stretch.first, stretch.many), (2, 3))

    def test_the_arguments_bear_their_names(self):
        even = Even(carried=[1], prices=[2])
        self.assertEqual((even.carried, even.prices), ([1], [2]))
        self.assertEqual(Uneven(total=3).total, 3)
        self.assertEqual(Within(carried=[4]).carried, [4])
        stretch = Stretch(first=5, many=6)
        self.assertEqual((stretch.first, stretch.many), (5, 6))

    def test_fields_of_any_length(self):
        self.assertEqual((Even([], []).carried, Even([], []).prices), ([], []))
        self.assertEqual((Even([], [1]).carried, Even([], [1]).prices), ([], [1]))
        self.assertEqual(Within([]).carried, [])
        self.assertEqual(Within([0] * 500).carried, [0] * 500)

    def test_lists_are_copied(self):
        carried = [2, 0]
        prices = [1, 0]
        even = Even(carried, prices)
        within = Within(carried)
        self.assertEqual((carried, prices), ([2, 0], [1, 0]))
        carried[0] = 99
        prices.append(7)
        self.assertEqual((even.carried, even.prices), ([2, 0], [1, 0]))
        self.assertEqual(within.carried, [2, 0])
        even.carried.append(5)
        within.carried.clear()
        self.assertEqual(carried, [99, 0])

    def test_one_list_as_both_fields(self):
        same = [0, 0]
        even = Even(same, same)
        even.carried.append(1)
        self.assertEqual(even.prices, [0, 0])


class EvensTest(TruthTest):
    def test_two_houses(self):
        ring = Ring([3, -3])
        for last in range(-5, 6):
            self.is_so(Even([last + 3, last], []).evens(ring))
            self.is_not_so(Even([last + 2, last], []).evens(ring))

    def test_the_way_of_the_bridges(self):
        self.is_so(Even([1, 0, 0], []).evens(Ring([1, -1, 0])))
        self.is_so(Even([0, 1, 0], []).evens(Ring([0, 1, -1])))
        self.is_so(Even([0, 0, 1], []).evens(Ring([-1, 0, 1])))
        self.is_so(Even([0, 0, -1], []).evens(Ring([1, 0, -1])))
        self.is_not_so(Even([-1, 0, 0], []).evens(Ring([1, -1, 0])))
        self.is_not_so(Even([0, 0, 1], []).evens(Ring([1, 0, -1])))

    def test_as_if_carried_out(self):
        for count, numbers in ((2, range(-3, 4)), (3, (-2, -1, 0, 1, 2))):
            for houses in rings(count, numbers):
                ring = Ring(houses)
                for carried in rings(count, numbers):
                    self.is_as(Even(carried, []).evens(ring), is_evened(houses, carried))

    def test_the_prices_do_not_count(self):
        ring = Ring([1, -1])
        for prices in ([], [0, 0], [9, -9], [1, 2, 3]):
            self.is_so(Even([1, 0], prices).evens(ring))

    def test_a_number_too_many_or_too_few(self):
        ring = Ring([0, 0, 0])
        for carried in ([], [0], [0, 0], [0, 0, 0, 0], [0] * 100):
            self.is_not_so(Even(carried, [0, 0, 0]).evens(ring))
        self.is_not_so(Even([1], []).evens(Ring([1, -1])))
        self.is_not_so(Even([1, 0, 0], []).evens(Ring([1, -1])))

    def test_by_the_field_as_it_stands_then(self):
        ring = Ring([1, -1])
        even = Even([1, 0], [0, 0])
        even.carried[1] = 5
        self.is_not_so(even.evens(ring))
        even.carried = [6, 5]
        self.is_so(even.evens(ring))
        even.carried.append(0)
        self.is_not_so(even.evens(ring))
        even.carried = []
        self.is_not_so(even.evens(ring))

    def test_a_ring_with_another_number_in_all(self):
        ring = Ring([1, 1])
        for carried in rings(2, range(-3, 4)):
            self.is_not_so(Even(carried, [0, 0]).evens(ring))

    def test_great_numbers(self):
        far = 10 ** 30
        self.is_so(Even([far + 1000000, far], []).evens(Ring([1000000, -1000000])))
        self.is_not_so(Even([far + 1000001, far], []).evens(Ring([1000000, -1000000])))

    def test_many_houses(self):
        ring = Ring([1, -1] * 2000)
        self.is_so(Even([1, 0] * 2000, []).evens(ring))
        self.is_not_so(Even([1, 0] * 1999 + [1, 1], []).evens(ring))

    def test_carryings_put_together_even_the_rings_put_together(self):
        pairs = [([1, -1, 0], [1, 0, 0]), ([2, 3, -5], [4, 7, 2]), ([0, 0, 0], [-3, -3, -3])]
        for one, over_one in pairs:
            for other, over_other in pairs:
                self.is_so(Even(over_one, []).evens(Ring(one)))
                both = [mine + yours for mine, yours in zip(over_one, over_other)]
                self.is_so(Even(both, []).evens(together(Ring(one), Ring(other))))

    def test_a_carrying_turned_evens_the_ring_turned(self):
        ring = Ring([2, 3, -5])
        carried = [4, 7, 2]
        for by in range(3):
            self.is_so(Even(carried[by:] + carried[:by], []).evens(turned(ring, by)))


class EvenShowsTest(TruthTest):
    def test_ordinary(self):
        self.is_so(Even([1, 0], [4, 0]).shows(Ring([1, -1]), [4, 9]))
        self.is_so(Even([0, -1], [4, 0]).shows(Ring([1, -1]), [9, 4]))
        self.is_so(Even([1, 0, 0], [5, 0, 3]).shows(Ring([1, -1, 0]), [5, 6, 7]))
        self.is_so(Even([0, -1, -1], [7, 0, 3]).shows(Ring([1, -1, 0]), [9, 3, 4]))
        self.is_so(Even([0, 0, 0], [0, 0, 0]).shows(Ring([0, 0, 0]), [1, 2, 3]))

    def test_the_way_around_is_taken_if_it_costs_less(self):
        ring = Ring([1, -1, 0])
        tolls = [9, 1, 1]
        self.is_so(Even([0, -1, -1], [2, 0, 1]).shows(ring, tolls))
        self.is_not_so(Even([1, 0, 0], [9, 0, 1]).shows(ring, tolls))

    def test_a_carrying_that_evens_nothing(self):
        ring = Ring([1, -1])
        self.is_not_so(Even([0, 0], [0, 0]).shows(ring, [0, 0]))
        self.is_not_so(Even([0, 1], [4, 0]).shows(ring, [4, 4]))

    def test_prices_at_the_toll_and_just_beyond(self):
        ring = Ring([0, 0, 0])
        for bridge in range(3):
            tolls = [50, 50, 50]
            tolls[bridge] = 2
            for sign in (1, -1):
                for gap, wanted in ((2, True), (3, False)):
                    prices = [7, 7, 7]
                    prices[bridge] += sign * gap
                    self.is_as(Even([0, 0, 0], prices).shows(ring, tolls), wanted)

    def test_the_last_bridge_joins_the_last_house_to_house_0(self):
        ring = Ring([0, 0, 0, 0])
        self.is_so(Even([0] * 4, [0, 1, 2, 3]).shows(ring, [1, 1, 1, 3]))
        self.is_not_so(Even([0] * 4, [0, 1, 2, 3]).shows(ring, [1, 1, 1, 2]))
        self.is_not_so(Even([0] * 4, [0, 1, 2, 3]).shows(ring, [3, 1, 1, 1]))

    def test_a_sum_that_is_not_the_cost(self):
        ring = Ring([2, -2])
        self.is_so(Even([2, 0], [3, 0]).shows(ring, [3, 3]))
        self.is_not_so(Even([2, 0], [2, 0]).shows(ring, [3, 3]))
        self.is_not_so(Even([2, 0], [0, 3]).shows(ring, [3, 3]))
        self.is_not_so(Even([3, 1], [3, 0]).shows(ring, [3, 3]))
        self.is_not_so(Even([0, -2], [3, 0]).shows(ring, [3, 4]))

    def test_prices_may_all_be_raised(self):
        for by in (-1000, -1, 0, 1, 10 ** 20):
            self.is_so(Even([2, 0], [3 + by, by]).shows(Ring([2, -2]), [3, 3]))

    def test_tolls_of_nought(self):
        for last in range(-4, 5):
            self.is_so(Even([last + 1, last], [6, 6]).shows(Ring([1, -1]), [0, 0]))
        self.is_not_so(Even([1, 0], [6, 5]).shows(Ring([1, -1]), [0, 0]))
        self.is_so(Even([1, 0], [0, 0]).shows(Ring([1, -1]), [0, 5]))
        self.is_not_so(Even([1, 0], [0, 0]).shows(Ring([1, -1]), [5, 0]))

    def test_as_the_document_tells_for_small_numbers(self):
        for houses in rings(2, (-2, 0, 2)):
            for tolls in rings(2, (0, 1, 2)):
                for carried in rings(2, (-2, -1, 0, 1, 2)):
                    for prices in rings(2, (-1, 0, 1)):
                        gap = abs(prices[0] - prices[1])
                        wanted = is_evened(houses, carried) and gap <= min(tolls) and (
                            houses[0] * prices[0] + houses[1] * prices[1] == cost(carried, tolls))
                        self.is_as(Even(carried, prices).shows(Ring(houses), tolls), wanted)

    def test_what_is_shown_costs_least(self):
        shown = 0
        houses = [2, -1, -1]
        for tolls in rings(3, (0, 1, 3)):
            evening = [carried for carried in rings(3, range(-3, 4)) if is_evened(houses, carried)]
            lowest = min(cost(carried, tolls) for carried in evening)
            for carried in evening:
                for prices in itertools.product([0], range(-3, 4), range(-3, 4)):
                    if Even(carried, list(prices)).shows(Ring(houses), tolls):
                        shown += 1
                        self.assertEqual(cost(carried, tolls), lowest)
        self.assertGreater(shown, 27)

    def test_a_number_too_many_or_too_few(self):
        ring = Ring([0, 0, 0])
        right = [0, 0, 0]
        self.is_so(Even(right, right).shows(ring, right))
        for wrong in ([], [0], [0, 0], [0, 0, 0, 0], [0] * 50):
            self.is_not_so(Even(wrong, right).shows(ring, right))
            self.is_not_so(Even(right, wrong).shows(ring, right))
            self.is_not_so(Even(right, right).shows(ring, wrong))
            self.is_not_so(Even(wrong, wrong).shows(ring, right))
            self.is_not_so(Even(right, wrong).shows(ring, wrong))
            self.is_not_so(Even(wrong, wrong).shows(ring, wrong))

    def test_by_the_fields_as_they_stand_then(self):
        ring = Ring([1, -1])
        tolls = [4, 9]
        even = Even([1, 0], [4, 0])
        even.prices[0] = 3
        self.is_not_so(even.shows(ring, tolls))
        even.prices = [10, 6]
        self.is_so(even.shows(ring, tolls))
        even.carried = [2, 1]
        self.is_not_so(even.shows(ring, tolls))
        even.carried = [1, 0]
        self.is_so(even.shows(ring, tolls))
        even.prices.append(6)
        self.is_not_so(even.shows(ring, tolls))
        even.prices.pop()
        even.carried.pop()
        self.is_not_so(even.shows(ring, tolls))

    def test_a_ring_with_another_number_in_all(self):
        for carried in rings(2, range(-2, 3)):
            self.is_not_so(Even(carried, [0, 0]).shows(Ring([1, 0]), [0, 0]))

    def test_tolls_beyond_the_bounds_are_not_refused(self):
        self.is_so(Even([1, 0], [1001, 0]).shows(Ring([1, -1]), [1001, 2000]))
        self.is_not_so(Even([0, 0], [0, 0]).shows(Ring([0, 0]), [-1, 5]))

    def test_nothing_handed_in_is_changed(self):
        ring = Ring([1, -1])
        tolls = [4, 9]
        even = Even([1, 0], [4, 0])
        even.shows(ring, tolls)
        even.evens(ring)
        self.assertEqual((ring.houses(), tolls), ([1, -1], [4, 9]))
        self.assertEqual((even.carried, even.prices), ([1, 0], [4, 0]))

    def test_the_arguments_bear_their_names(self):
        even = Even([1, 0], [4, 0])
        self.is_so(even.shows(ring=Ring([1, -1]), tolls=[4, 9]))
        self.is_so(even.evens(ring=Ring([1, -1])))


class UnevenShowsTest(TruthTest):
    def test_a_ring_with_another_number_in_all(self):
        self.is_so(Uneven(3).shows(Ring([1, 2]), [0, 0]))
        self.is_so(Uneven(-4).shows(Ring([1, -2, -3]), [1, 2, 3]))
        self.is_not_so(Uneven(-3).shows(Ring([1, 2]), [0, 0]))
        self.is_not_so(Uneven(2).shows(Ring([1, 2]), [0, 0]))
        self.is_not_so(Uneven(0).shows(Ring([1, 2]), [0, 0]))

    def test_a_ring_with_0_in_all(self):
        for total in (-1, 0, 1):
            self.is_not_so(Uneven(total).shows(Ring([1, -1]), [0, 0]))

    def test_small_rings(self):
        for houses in rings(3, (-1, 0, 1)):
            for total in range(-4, 5):
                wanted = total == sum(houses) and total != 0
                self.is_as(Uneven(total).shows(Ring(houses), [1, 1, 1]), wanted)

    def test_by_the_field_as_it_stands_then(self):
        uneven = Uneven(3)
        uneven.total = 5
        self.is_not_so(uneven.shows(Ring([1, 2]), [0, 0]))
        self.is_so(uneven.shows(Ring([3, 2]), [0, 0]))

    def test_the_tolls_do_not_count(self):
        for tolls in ([], [1], [1, 2], [1, 2, 3]):
            self.is_so(Uneven(3).shows(Ring([1, 2]), tolls))
            self.is_not_so(Uneven(0).shows(Ring([1, -1]), tolls))

    def test_the_arguments_bear_their_names(self):
        self.is_so(Uneven(3).shows(ring=Ring([1, 2]), tolls=[0, 0]))


class WithinShowsTest(TruthTest):
    def test_at_the_number_and_one_below(self):
        for ring, carried, most in (
                (Ring([1, -1]), [1, 0], 1), (Ring([1, -1]), [0, -1], 1), (Ring([4, -4]), [2, -2], 2),
                (Ring([2, 3, -5]), [-1, 2, -3], 3), (Ring([2, 3, -5]), [0, 3, -2], 3)):
            self.is_so(Within(carried).shows(ring, most))
            self.is_so(Within(carried).shows(ring, most + 1))
            self.is_not_so(Within(carried).shows(ring, most - 1))

    def test_nothing_to_carry(self):
        self.is_so(Within([0, 0]).shows(Ring([0, 0]), 0))
        self.is_not_so(Within([0, 0]).shows(Ring([0, 0]), -1))
        self.is_not_so(Within([1, 1]).shows(Ring([0, 0]), 0))
        self.is_so(Within([1, 1]).shows(Ring([0, 0]), 1))

    def test_small_rings(self):
        for houses in rings(2, range(-2, 3)):
            for carried in rings(2, range(-3, 4)):
                for most in range(-1, 5):
                    wanted = is_evened(houses, carried) and max(abs(amount) for amount in carried) <= most
                    self.is_as(Within(carried).shows(Ring(houses), most), wanted)

    def test_a_number_too_many_or_too_few(self):
        for carried in ([], [0], [0, 0], [0, 0, 0, 0]):
            self.is_not_so(Within(carried).shows(Ring([0, 0, 0]), 5))

    def test_a_ring_with_another_number_in_all(self):
        for carried in rings(2, range(-2, 3)):
            self.is_not_so(Within(carried).shows(Ring([1, 0]), 100))

    def test_by_the_field_as_it_stands_then(self):
        ring = Ring([1, -1])
        within = Within([1, 0])
        within.carried[0] = 2
        self.is_not_so(within.shows(ring, 5))
        within.carried = [5, 4]
        self.is_so(within.shows(ring, 5))
        within.carried.append(0)
        self.is_not_so(within.shows(ring, 5))
        within.carried = []
        self.is_not_so(within.shows(ring, 5))

    def test_nothing_handed_in_is_changed(self):
        ring = Ring([1, -1])
        within = Within([1, 0])
        within.shows(ring, 1)
        self.assertEqual((ring.houses(), within.carried), ([1, -1], [1, 0]))

    def test_the_arguments_bear_their_names(self):
        self.is_so(Within([1, 0]).shows(ring=Ring([1, -1]), most=1))


class StretchShowsTest(TruthTest):
    def test_what_the_houses_have_over(self):
        ring = Ring([1, 4, 3, -8])
        self.is_so(Stretch(1, 2).shows(ring, 3))
        self.is_not_so(Stretch(1, 2).shows(ring, 4))
        self.is_so(Stretch(0, 3).shows(ring, 3))
        self.is_not_so(Stretch(0, 3).shows(ring, 4))

    def test_what_the_houses_lack(self):
        ring = Ring([8, -4, -3, -1])
        self.is_so(Stretch(1, 2).shows(ring, 3))
        self.is_not_so(Stretch(1, 2).shows(ring, 4))

    def test_more_than_twice_and_just_twice(self):
        self.is_so(Stretch(0, 1).shows(Ring([7, -7]), 3))
        self.is_not_so(Stretch(0, 1).shows(Ring([6, -6]), 3))
        self.is_so(Stretch(1, 1).shows(Ring([7, -7]), 3))
        self.is_not_so(Stretch(1, 1).shows(Ring([6, -6]), 3))
        self.is_so(Stretch(0, 1).shows(Ring([1, -1]), 0))
        self.is_not_so(Stretch(0, 1).shows(Ring([0, 0]), 0))

    def test_around_the_end_of_the_ring(self):
        ring = Ring([3, -9, 1, 5])
        self.is_so(Stretch(3, 2).shows(ring, 3))
        self.is_so(Stretch(2, 3).shows(ring, 4))
        self.is_not_so(Stretch(3, 2).shows(ring, 4))
        self.is_not_so(Stretch(3, 3).shows(ring, 1))

    def test_houses_that_are_none(self):
        ring = Ring([9, 9, -18])
        for first in (-10 ** 20, -4, -3, -2, -1, 3, 4, 5, 6, 10 ** 20):
            for many in (1, 2):
                self.is_not_so(Stretch(first, many).shows(ring, 0))
        for first in (0, 1, 2):
            self.is_so(Stretch(first, 1).shows(ring, 0))

    def test_counts_that_are_none(self):
        ring = Ring([9, 9, -18])
        for many in (-10 ** 20, -4, -3, -2, -1, 0, 3, 4, 5, 6, 10 ** 20):
            for first in (0, 1, 2):
                self.is_not_so(Stretch(first, many).shows(ring, 0))

    def test_counts_that_are_none_with_a_number_below_0(self):
        for many in (-1, 3, 4):
            self.is_not_so(Stretch(0, many).shows(Ring([9, 9, -18]), -1))

    def test_a_ring_with_another_number_in_all(self):
        for houses in ([9, 9, 9], [9, 0, 0], [-9, 0, 0], [9, -9, 1]):
            for first in range(-1, 4):
                for many in range(-1, 5):
                    self.is_not_so(Stretch(first, many).shows(Ring(houses), 0))

    def test_small_rings(self):
        for houses in rings(3, (-3, -1, 0, 1, 2)):
            for first, many, most in itertools.product(range(-4, 8), range(-4, 8), range(3)):
                wanted = False
                if sum(houses) == 0 and first in range(3) and many in range(3):
                    over = sum(houses[(first + step) % 3] for step in range(many))
                    wanted = over > 2 * most or -over > 2 * most
                self.is_as(Stretch(first, many).shows(Ring(houses), most), wanted)

    def test_never_both_within_and_stretch(self):
        for houses in ([2, -1, -1], [0, 0, 0], [3, -3, 0]):
            ring = Ring(houses)
            for most in range(4):
                kept = [Within(carried).shows(ring, most) for carried in rings(3, range(-most, most + 1))]
                broken = [Stretch(first, many).shows(ring, most) for first in range(3) for many in range(3)]
                self.assertNotEqual(any(kept), any(broken))

    def test_by_the_fields_as_they_stand_then(self):
        ring = Ring([9, 9, -18])
        stretch = Stretch(0, 1)
        self.is_not_so(stretch.shows(ring, 8))
        stretch.many = 2
        self.is_so(stretch.shows(ring, 8))
        stretch.first = 1
        self.is_not_so(stretch.shows(ring, 8))
        stretch.first = 3
        self.is_not_so(stretch.shows(ring, 0))

    def test_many_houses(self):
        ring = Ring([1] * 3000 + [-1] * 3000)
        self.is_so(Stretch(0, 3000).shows(ring, 1499))
        self.is_not_so(Stretch(0, 3000).shows(ring, 1500))
        self.is_so(Stretch(3001, 2999).shows(ring, 1499))
        self.is_so(Stretch(5999, 3001).shows(ring, 1499))

    def test_nothing_handed_in_is_changed(self):
        ring = Ring([9, 9, -18])
        stretch = Stretch(2, 2)
        stretch.shows(ring, 1)
        self.assertEqual(ring.houses(), [9, 9, -18])
        self.assertEqual((stretch.first, stretch.many), (2, 2))

    def test_the_arguments_bear_their_names(self):
        self.is_so(Stretch(0, 1).shows(ring=Ring([1, -1]), most=0))


if __name__ == "__main__":
    unittest.main()
