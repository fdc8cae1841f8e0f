"""Rows: whole numbers that stand before the powers of a number, the lowest first."""

from math import gcd

from rootpeg.errors import NoRow

SPARE = 64


def sign(number):
    """Whether a whole number is below nought (-1), nought (0) or above (1)."""
    if number < 0:
        return -1
    if number > 0:
        return 1
    return 0


def sign_at(row, at):
    """The sign of the row's value at a part."""
    top, bottom = at
    # The value is worked out times a power of the bottom number: whole, and of the same sign.
    value = 0
    scale = 1
    for number in reversed(row):
        value = value * top + number * scale
        scale = scale * bottom
    return sign(value)


def plain(row):
    """The row of the fewest numbers that has the same roots, none of them more than once."""
    kept = trimmed(row)
    if len(kept) < 2:
        raise NoRow("no number other than nought stands behind the first one")
    whole = bare(kept)
    # A root that stands k times in a row stands k - 1 times in its slope.
    return quotient(whole, common_row(whole, bare(slope(whole))))


def trimmed(row):
    """The row without the noughts at its end, a new list."""
    many = len(row)
    while many > 0 and row[many - 1] == 0:
        many -= 1
    return list(row[:many])


def bare(row):
    """The row without a common divisor above 1, and its last number above nought.

    The last number of the row that is handed in isn't nought.
    """
    common = 0
    for number in row:
        common = gcd(common, number)
    if row[-1] < 0:
        common = -common
    return [number // common for number in row]


def powered(row, by):
    """The row with each number times by, as often as numbers stand ahead of it."""
    found = []
    power = 1
    for number in row:
        found.append(number * power)
        power = power * by
    return found


def slope(row):
    """The row that tells how fast the value of the row rises."""
    return [at * row[at] for at in range(1, len(row))]


def common_row(one, other):
    """The longest bare row that divides both bare rows."""
    # Dividing the rows in turn would make long numbers of short ones. A large number, the place,
    # is put in the place of x instead: the greatest common divisor of both values mostly has, in
    # that place, the digits of the row asked for, each times one number.
    # A row so found that divides both rows is the longest one. Else that would be it times a
    # third row, whose value at the place divides the one number, which is no more than half the
    # place, as no digit is; but all roots are nearer nought than half the place, so that a row
    # that has roots has a value beyond half the place.
    # A row so found that doesn't divide both is another one in a place that is large enough.
    size = min(largest(one), largest(other)).bit_length() + SPARE
    while True:
        place = (1 << size) + 1
        found = bare(digits(gcd(value_at(one, place), value_at(other, place)), place))
        if quotient(one, found) is not None and quotient(other, found) is not None:
            return found
        size = 2 * size


def largest(row):
    """How far from nought a number of the row is at most."""
    return max([abs(number) for number in row])


def value_at(row, number):
    """The row's value at a whole number."""
    value = 0
    for factor in reversed(row):
        value = value * number + factor
    return value


def digits(number, place):
    """The row whose value at the place is the number, and whose numbers are at most half of it."""
    half = place // 2
    found = []
    while number != 0:
        digit = (number + half) % place - half
        found.append(digit)
        number = (number - digit) // place
    return found


def quotient(row, other):
    """What dividing the row by the other, bare row gives; None where something is left over."""
    left = list(row)
    found = []
    while len(left) >= len(other):
        factor = left[-1] // other[-1]
        if factor * other[-1] != left[-1]:
            return None
        found.append(factor)
        left = lowered(left, other, factor)
    if any(left):
        return None
    found.reverse()
    return found


def lowered(row, other, factor):
    """The row less factor times the other, laid at its end, where both last numbers cancel."""
    gap = len(row) - len(other)
    high = [number - factor * less for number, less in zip(row[gap:], other)]
    return row[:gap] + high[:-1]
