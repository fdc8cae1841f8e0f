"""Rows: whole numbers that stand before the powers of a number, the lowest first."""

from math import gcd

from rootpeg.errors import NoRow


def sign(number):
    """Whether a whole number is below nought (-1), nought (0) or above (1)."""
    if number < 0:
        return -1
    if number > 0:
        return 1
    return 0


def sign_at(row, at):
    """The sign of the row's value at a part."""
    top, bottom = at
    # The value is worked out times a power of the bottom number: whole, and of the same sign.
    value = 0
    scale = 1
    for number in reversed(row):
        value = value * top + number * scale
        scale = scale * bottom
    return sign(value)


def plain(row):
    """The row of the fewest numbers that has the same roots, none of them more than once."""
    kept = trimmed(row)
    if len(kept) < 2:
        raise NoRow("no number other than nought stands behind the first one")
    whole = bare(kept)
    # A root that stands k times in a row stands k - 1 times in its slope.
    return quotient(whole, common_row(whole, bare(slope(whole))))


def trimmed(row):
    """The row without the noughts at its end, a new list."""
    many = len(row)
    while many > 0 and row[many - 1] == 0:
        many -= 1
    return list(row[:many])


def bare(row):
    """The row without a common divisor above 1, its last number above nought.

    The row's last number isn't nought; a row without numbers stays one.
    """
    if not row:
        return []
    common = 0
    for number in row:
        common = gcd(common, number)
    if row[-1] < 0:
        common = -common
    return [number // common for number in row]


def slope(row):
    """The row that tells how fast the value of the row rises."""
    return [at * row[at] for at in range(1, len(row))]


def common_row(one, other):
    """The longest bare row that divides both bare rows."""
    while other:
        # Left as they are, the numbers would grow with each round beyond all need.
        one, other = other, bare(remainder(one, other))
    return one


def remainder(row, other):
    """What dividing the row, times some number but nought, by the other row leaves over."""
    left = row
    while len(left) >= len(other):
        common = gcd(left[-1], other[-1])
        factor = left[-1] // common
        raised = [number * (other[-1] // common) for number in left]
        left = trimmed(lowered(raised, other, factor))
    return left


def quotient(row, other):
    """What dividing the row by the other row gives; both are bare, and nothing is left over."""
    left = row
    found = []
    while len(left) >= len(other):
        factor = left[-1] // other[-1]
        found.append(factor)
        left = lowered(left, other, factor)
    found.reverse()
    return found


def lowered(row, other, factor):
    """The row less factor times the other, laid at its end, where both last numbers cancel."""
    gap = len(row) - len(other)
    high = [number - factor * less for number, less in zip(row[gap:], other)]
    return row[:gap] + high[:-1]
