"""Carryings with no more than a number over any bridge, or the stretch of houses that shows there is none."""

from evenring.answers import Stretch, Within
from evenring.carrying import along
from evenring.errors import BadMost
from evenring.rings import is_whole_number


def stretch_between(one, other):
    # The houses behind the earlier bridge, up to the later one, have over together
    # just what the later one has more than the earlier one, in every carrying that evens the ring.
    earlier = min(one, other)
    later = max(one, other)
    return Stretch(earlier + 1, later - earlier)


def within(ring, most):
    if not is_whole_number(most) or most < 0:
        raise BadMost("the most over a bridge is a whole number from 0 on")
    row = along(ring)
    low = min(row)
    high = max(row)
    if high - low > 2 * most:
        return stretch_between(row.index(low), row.index(high))
    # With the middle taken away no bridge can be brought nearer to 0 without another going farther.
    middle = (low + high) // 2
    return Within([amount - middle for amount in row])


def widest(ring):
    row = along(ring)
    return (max(row) - min(row) + 1) // 2
