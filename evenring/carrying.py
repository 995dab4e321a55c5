"""Carryings of the least cost, with prices that show that none costs less, and the carrying along a row."""

from evenring.answers import Even, Uneven
from evenring.errors import BadTolls, Lacking
from evenring.rings import is_whole_number

HIGHEST_TOLL = 1000


def is_toll(value):
    return is_whole_number(value) and 0 <= value <= HIGHEST_TOLL


def tolls_for(ring, tolls):
    if not isinstance(tolls, list):
        raise BadTolls("the tolls are not a list")
    numbers = list(tolls)
    if len(numbers) != len(ring.houses()):
        raise BadTolls("there is one toll for each bridge")
    if not all([is_toll(number) for number in numbers]):
        raise BadTolls("a toll is a whole number from 0 to 1000")
    return numbers


def along(ring):
    if ring.whole() != 0:
        raise Lacking(ring.whole())
    over = 0
    carried = []
    for house in ring.houses():
        over = over + house
        carried.append(over)
    return carried


def lowest_middle(numbers, tolls):
    in_all = sum(tolls)
    behind = 0
    # Where no toll is above 0 every number costs the same, so 0 may stay.
    middle = 0
    for number, toll in sorted(zip(numbers, tolls)):
        # While less than half of the tolls lies behind, going on saves more than it costs.
        if 2 * behind < in_all:
            middle = number
        behind = behind + toll
    return middle


def least_over_last(row, tolls):
    # What goes over the last bridge goes over each one beside its part in the row,
    # so bridge k costs nothing if minus row[k] goes over the last.
    return lowest_middle([-amount for amount in row], tolls)


def greatest_over_last(row, tolls):
    # Seen from the other side, with every sign turned, the greatest is the least.
    return -lowest_middle(row, tolls)


def full_step(amount, toll):
    if amount > 0:
        return toll
    if amount < 0:
        return -toll
    return 0


def steps_down(carried, tolls):
    # Only if the price falls by the whole toll on the way of the goods is their worth the cost.
    steps = [full_step(amount, toll) for amount, toll in zip(carried, tolls)]
    # Once around the ring the price must be the first one again, so the unused bridges take back what is left.
    left = sum(steps)
    for bridge, toll in enumerate(tolls):
        if carried[bridge] == 0:
            back = max(-toll, min(toll, left))
            steps[bridge] = -back
            left = left - back
    return steps


def prices_by(steps):
    price = 0
    prices = []
    for step in steps:
        prices.append(price)
        price = price - step
    return prices


def least(ring, tolls):
    numbers = tolls_for(ring, tolls)
    if ring.whole() != 0:
        return Uneven(ring.whole())
    row = along(ring)
    last = least_over_last(row, numbers)
    carried = [amount + last for amount in row]
    return Even(carried, prices_by(steps_down(carried, numbers)))


def ends(ring, tolls):
    numbers = tolls_for(ring, tolls)
    row = along(ring)
    if sum(numbers) == 0:
        raise BadTolls("without a toll above 0 the numbers over the last bridge have no ends")
    return (least_over_last(row, numbers), greatest_over_last(row, numbers))
