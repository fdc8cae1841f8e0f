"""Parts: the numbers that one whole number is of another, as (top, bottom)."""

from math import gcd

from rootpeg.errors import NoPart


def part(top, bottom):
    """The part that top is of bottom."""
    if bottom == 0:
        raise NoPart("nothing is a part of nought")
    common = gcd(top, bottom)
    if bottom < 0:
        common = -common
    return (top // common, bottom // common)


def below(one, other):
    """Whether the one part is below the other."""
    # Both bottoms are above nought, so multiplying by them keeps the order.
    return one[0] * other[1] < other[0] * one[1]


def part_sum(one, other):
    """The sum of two parts."""
    return part(one[0] * other[1] + other[0] * one[1], one[1] * other[1])


def part_product(one, other):
    """The product of two parts."""
    return part(one[0] * other[0], one[1] * other[1])


def turned(at):
    """The part taken from nought."""
    return (-at[0], at[1])


def middle(low, high):
    """The part halfway between two parts."""
    return part(low[0] * high[1] + high[0] * low[1], 2 * low[1] * high[1])
