"""Sums, differences, products and quotients of the numbers of pegs."""

from math import comb, lcm

from rootpeg.errors import NoQuotient
from rootpeg.parts import below, part, part_product, part_sum, turned
from rootpeg.pegs import halved, sign_of_peg
from rootpeg.rows import bare, plain, powered, trimmed
from rootpeg.stretches import alone


def added(one, other):
    """A peg of the sum."""
    return joined(sum_row(plain(one[0]), plain(other[0])), one, other, sum_ends)


def taken(one, other):
    """A peg of the one number less the other."""
    return added(one, opposite(other))


def times(one, other):
    """A peg of the product."""
    return joined(product_row(plain(one[0]), plain(other[0])), one, other, product_ends)


def divided(one, other):
    """A peg of the quotient."""
    if sign_of_peg(other) == 0:
        raise NoQuotient("nothing is divided by nought")
    return times(one, inverse(other))


def opposite(one):
    """A peg of the number taken from nought."""
    row, low, high = one
    return (tuple(bare(powered(row, -1))), turned(high), turned(low))


def inverse(one):
    """A row and a stretch in which it has just one root, 1 by the peg's number; that isn't nought.

    This may be no peg: without its roots of nought, the row may turn more often.
    """
    while one[1][0] <= 0 <= one[2][0]:
        one = halved(one)
    row, low, high = one
    return (bare(trimmed(row[::-1])), part(high[1], high[0]), part(low[1], low[0]))


def joined(row, one, other, ends):
    """The peg of a row's root that lies between the ends that both stretches lead to.

    The row has no root more than once: so it turns just once where the stretches are narrow.
    """
    low, high = ends(one, other)
    while not alone(row, low, high):
        one = halved(one)
        other = halved(other)
        low, high = ends(one, other)
    return (tuple(row), low, high)


def sum_ends(one, other):
    """The ends between which the sum lies."""
    return part_sum(one[1], other[1]), part_sum(one[2], other[2])


def product_ends(one, other):
    """The ends between which the product lies."""
    found = [part_product(end, other_end) for end in one[1:] for other_end in other[1:]]
    low = high = found[0]
    for at in found:
        if below(at, low):
            low = at
        if below(high, at):
            high = at
    return low, high


def sum_row(one, other):
    """The plain row whose roots are the sums of a root of the one row and one of the other."""
    common = lcm(one[-1], other[-1])
    many = (len(one) - 1) * (len(other) - 1)
    ones = powered(power_sums(one, many), common // one[-1])
    others = powered(power_sums(other, many), common // other[-1])
    sums = [both_power_sum(ones, others, power) for power in range(many + 1)]
    return plain(powered(row_of_power_sums(sums), common))


def both_power_sum(ones, others, power):
    """The sum of the powers of all sums of two roots, by the sums of the powers of each."""
    total = 0
    for at in range(power + 1):
        total += comb(power, at) * ones[at] * others[power - at]
    return total


def product_row(one, other):
    """The plain row whose roots are the products of a root of the one row and one of the other."""
    many = (len(one) - 1) * (len(other) - 1)
    sums = [left * right for left, right in zip(power_sums(one, many), power_sums(other, many))]
    return plain(powered(row_of_power_sums(sums), one[-1] * other[-1]))


def power_sums(row, many):
    """The sums of the powers, from 0 to many, of the row's roots times its last number.

    The last number makes them whole: such roots are those of a row that ends in 1.
    """
    whole = powered(row[-2::-1], row[-1])
    found = [len(whole)]
    for power in range(1, many + 1):
        total = 0
        for at, number in enumerate(whole[:power - 1]):
            total += number * found[power - 1 - at]
        if power <= len(whole):
            total += power * whole[power - 1]
        found.append(-total)
    return found


def row_of_power_sums(sums):
    """The row that ends in 1 and whose roots' powers have these sums."""
    found = [1]
    for power in range(1, len(sums)):
        total = 0
        for at in range(power):
            total += found[at] * sums[power - at]
        # Nothing is left over, as the roots are those of a row of whole numbers ending in 1.
        found.append(-total // power)
    return found[::-1]
