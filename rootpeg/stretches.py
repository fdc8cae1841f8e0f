"""Stretches: the numbers between two parts, without the ends."""

from math import lcm

from rootpeg.rows import powered, sign, sign_at


def turns(row, low, high):
    """How often the row turns in the stretch from low to high."""
    many = 0
    ahead = 0
    for number in seen(row, low, high):
        if number != 0:
            if sign(number) == -ahead:
                many += 1
            ahead = sign(number)
    return many


def alone(row, low, high):
    """Whether the row turns just once in the stretch, and its value is nought at neither end."""
    # A row that turns just once has other signs at both ends; asking for these first saves
    # most of the work, as turning takes far longer to count.
    return sign_at(row, low) * sign_at(row, high) == -1 and turns(row, low, high) == 1


def seen(row, low, high):
    """The row as it is seen from the stretch, times some number above nought."""
    bottom = lcm(low[1], high[1])
    start = low[0] * (bottom // low[1])
    width = high[0] * (bottom // high[1]) - start
    # From here on bottom times x stands in the place of x, so that all numbers stay whole.
    whole = powered(row[::-1], bottom)[::-1]
    # As y : (1 + y) goes from 0 to 1, start + width times it goes from end to end.
    held = powered(moved(whole, start), width)
    # Turned round, the row is one of (1 + y) : y, which is 1 more than 1 : y.
    return moved(held[::-1], 1)[::-1]


def moved(row, by):
    """The row whose value at a number is that of the row at the number and by."""
    found = list(row)
    for first in range(len(row) - 1):
        for at in range(len(row) - 2, first - 1, -1):
            found[at] += by * found[at + 1]
    return found
