"""Rings of houses, each with a whole number: what it has over, below 0 what it lacks."""

from evenring.errors import BadMost, BadRing, Unlike

FEWEST_HOUSES = 2
FARTHEST_NUMBER = 1000000


def is_whole_number(value):
    # Python counts True and False among the whole numbers; a ring does not.
    return isinstance(value, int) and not isinstance(value, bool)


def is_house(value):
    return is_whole_number(value) and abs(value) <= FARTHEST_NUMBER


def are_houses(values):
    return all([is_house(value) for value in values])


class Ring:
    def __init__(self, houses):
        if not isinstance(houses, list):
            raise BadRing("the houses are not a list")
        numbers = list(houses)
        if len(numbers) < FEWEST_HOUSES:
            raise BadRing("a ring has two houses or more")
        if not are_houses(numbers):
            raise BadRing("a house has a whole number from -1000000 to 1000000")
        self.numbers = numbers

    def houses(self):
        # A copy, so that who changes the list does not change the ring.
        return list(self.numbers)

    def whole(self):
        return sum(self.numbers)


def turned(ring, by):
    if not is_whole_number(by):
        raise BadMost("a ring is turned by a whole number")
    houses = ring.houses()
    start = by % len(houses)
    return Ring(houses[start:] + houses[:start])


def together(one, other):
    # What is no ring is like no ring, so it is refused as another count is.
    if not isinstance(one, Ring) or not isinstance(other, Ring):
        raise Unlike("only rings are put together")
    ones = one.houses()
    others = other.houses()
    if len(ones) != len(others):
        raise Unlike("the rings have other counts of houses")
    sums = [mine + yours for mine, yours in zip(ones, others)]
    if not are_houses(sums):
        raise Unlike("a house has a number beyond the bounds in the rings put together")
    return Ring(sums)
