"""What several test files need: the document's words carried out one by one, and values of wrong kinds."""

import itertools
import unittest

from evenring.errors import Lacking
from evenring.rings import Ring

# Kinds that are no whole number wherever one is asked for; True and False are among them.
NO_NUMBERS = [True, False, None, "1", "", 1.0, 0.5, float("nan"), float("inf"), 1j, b"1", [1], [], (1,), {}, {1},
              object(), int, len, Ring([0, 0])]


class Strange:
    """Answers every question about itself with an error."""

    def __eq__(self, other):
        raise RuntimeError("compared")

    def __len__(self):
        raise RuntimeError("measured")

    def __iter__(self):
        raise RuntimeError("walked")

    def __index__(self):
        raise RuntimeError("counted")

    def __bool__(self):
        raise RuntimeError("asked")

    def __repr__(self):
        raise RuntimeError("shown")


class RefusalTest(unittest.TestCase):
    """What is refused is refused with the very class told, not with one under it."""

    def is_refused(self, kind, call, *handed_in):
        with self.assertRaises(kind) as taken:
            call(*handed_in)
        self.assertIs(type(taken.exception), kind)
        return taken.exception

    def is_lacking(self, total, call, *handed_in):
        self.assertEqual(self.is_refused(Lacking, call, *handed_in).total, total)


def carried_out(houses, carried):
    """What each house has over once the goods have gone over the bridges."""
    left = list(houses)
    for bridge, amount in enumerate(carried):
        left[bridge] -= amount
        left[(bridge + 1) % len(left)] += amount
    return left


def is_evened(houses, carried):
    return carried_out(houses, carried) == [0] * len(houses)


def cost(carried, tolls):
    return sum(toll * max(amount, -amount) for toll, amount in zip(tolls, carried))


def rings(count, numbers):
    return [list(houses) for houses in itertools.product(numbers, repeat=count)]


def even_rings(count, numbers):
    return [houses for houses in rings(count, numbers) if sum(houses) == 0]


def mixed(count, seed, low, high):
    """Numbers from low to high that look mixed, and are the same each time."""
    numbers = []
    state = seed
    for turn in range(count):
        state = (state * 6364136223846793005 + 1442695040888963407) % 2 ** 64
        numbers.append(low + (state >> 33) % (high - low + 1))
    return numbers


def mixed_even_ring(count, seed, most):
    """Mixed numbers from -most to most, of which as many as needed are changed till they are 0 in all."""
    houses = mixed(count, seed, -most, most)
    left = sum(houses)
    for place, number in enumerate(houses):
        houses[place] = max(-most, min(most, number - left))
        left -= number - houses[place]
    return houses
