"""What the tests work out on their own, straight from the document, by fractions.

A row here is a list or a tuple of numbers, a stretch two fractions; nothing of the program is used.
"""

import signal
import unittest
from fractions import Fraction
from functools import lru_cache
from math import comb, gcd

# Seconds; no test takes more than a few.
LIMIT = 30


class Limited(unittest.TestCase):
    """Tests that fail where a loop that should come to an end doesn't."""

    def setUp(self):
        signal.signal(signal.SIGALRM, self.stop)
        signal.alarm(LIMIT)
        self.addCleanup(signal.alarm, 0)

    def stop(self, *_):
        raise AssertionError(f"not done within {LIMIT} seconds")


def fraction(at):
    """The number that a part tells."""
    return Fraction(at[0], at[1])


def pair(number):
    """The part that tells the number."""
    number = Fraction(number)
    return (number.numerator, number.denominator)


def value_at(row, number):
    """The row's value, as point 3 has it."""
    total = Fraction(0)
    power = Fraction(1)
    for factor in row:
        total += factor * power
        power *= number
    return total


def sign_of(number):
    return (number > 0) - (number < 0)


def multiplied(*rows):
    """The row whose value is the product of the rows' values."""
    whole = [1]
    for row in rows:
        found = [0] * (len(whole) + len(row) - 1)
        for at, one in enumerate(whole):
            for by, other in enumerate(row):
                found[at + by] += one * other
        whole = found
    return whole


def seen_as_told(row, low, high):
    """The row as it is seen from the stretch, word by word as point 6 has it."""
    behind = len(row) - 1
    found = [Fraction(0)] * len(row)
    for times, factor in enumerate(row):
        # (low + high y), times times, and (1 + y), the other times.
        one = [comb(times, at) * low ** (times - at) * high ** at for at in range(times + 1)]
        other = [comb(behind - times, at) for at in range(behind - times + 1)]
        for at, number in enumerate(multiplied(one, other)):
            found[at] += factor * number
    return found


def turns_as_told(row, low, high):
    signs = [sign_of(number) for number in seen_as_told(row, low, high) if number]
    return sum(1 for one, other in zip(signs, signs[1:]) if one != other)


def trimmed(row):
    row = list(row)
    while row and row[-1] == 0:
        row.pop()
    return row


def divided(row, other):
    """What dividing the row by the other gives, and what is left over."""
    left = [Fraction(number) for number in row]
    found = []
    while len(left) >= len(other):
        factor = left[-1] / other[-1]
        found.append(factor)
        gap = len(left) - len(other)
        left = [number - (factor * other[at - gap] if at >= gap else 0) for at, number in enumerate(left)][:-1]
    return found[::-1], trimmed(left)


def common(one, other):
    """The longest row that divides both rows, its last number 1."""
    while other:
        one, other = other, divided(one, other)[1]
    return [Fraction(number) / one[-1] for number in one]


def slope(row):
    return [at * number for at, number in enumerate(row)][1:]


def once(row):
    """The row with each of its roots once."""
    row = trimmed(row)
    return divided(row, common(row, slope(row)))[0]


def real_roots(row):
    """How many real roots a row has, counted once each, by Sturm's rows."""
    row = once(row)
    if len(row) < 2:
        return 0
    chain = [row, slope(row)]
    while len(chain[-1]) > 1:
        chain.append([-number for number in divided(chain[-2], chain[-1])[1]])
    far = 1 + sum(abs(Fraction(number) / row[-1]) for number in row)
    changes = []
    for end in (-far, far):
        signs = [sign_of(value_at(one, end)) for one in chain]
        signs = [one for one in signs if one]
        changes.append(sum(1 for one, other in zip(signs, signs[1:]) if one != other))
    return changes[0] - changes[1]


@lru_cache(maxsize=None)
def enclosed(one, width):
    """Two numbers within the peg's stretch, no further apart than the width, the peg's number between."""
    row, low, high = one[0], fraction(one[1]), fraction(one[2])
    ahead = sign_of(value_at(row, low))
    while high - low > width:
        # Where a cut meets the number itself, another one doesn't.
        at = next(low + (high - low) * cut for cut in (Fraction(1, 2), Fraction(1, 3)) if
                  value_at(row, low + (high - low) * cut))
        if sign_of(value_at(row, at)) == ahead:
            low = at
        else:
            high = at
    return low, high


def companion(row):
    """A square of numbers whose own values are the row's roots."""
    many = len(row) - 1
    return [[Fraction(-row[line], row[-1]) if at == many - 1 else Fraction(line == at + 1) for at in range(many)]
            for line in range(many)]


def joined(one, other, work):
    """The square over pairs of lines and pairs of columns, each number made of one of both squares."""
    return [[work(one[a][c], other[b][d], a == c, b == d) for c in range(len(one)) for d in range(len(other))]
            for a in range(len(one)) for b in range(len(other))]


def own_row(square):
    """The row whose roots are the square's own values (Faddeev and LeVerrier)."""
    many = len(square)
    row = [Fraction(1)]
    kept = [[Fraction(0)] * many for _ in range(many)]
    for step in range(1, many + 1):
        kept = [[sum(square[a][c] * kept[c][b] for c in range(many)) + (row[-1] if a == b else 0)
                 for b in range(many)] for a in range(many)]
        trace = sum(square[a][c] * kept[c][a] for a in range(many) for c in range(many))
        row.append(-trace / step)
    return row[::-1]


def sum_row(one, other):
    """A row whose roots are all sums of a root of the one row and one of the other."""
    return own_row(joined(companion(one), companion(other), lambda x, y, left, right: x * right + y * left))


def product_row(one, other):
    return own_row(joined(companion(one), companion(other), lambda x, y, left, right: x * y))


def opposite_row(row):
    return [number * (-1) ** at for at, number in enumerate(row)]


def inverse_row(row):
    return trimmed(list(row)[::-1])


def check_part(case, at):
    case.assertIs(type(at), tuple)
    case.assertEqual([type(number) for number in at], [int, int])
    case.assertGreater(at[1], 0)
    case.assertEqual(gcd(*at), 1)


def check_peg(case, one):
    """That what is answered is a peg as point 7 has it."""
    case.assertIs(type(one), tuple)
    case.assertEqual(len(one), 3)
    row, low, high = one
    case.assertIs(type(row), tuple)
    case.assertEqual({type(number) for number in row}, {int})
    case.assertGreaterEqual(len(row), 2)
    case.assertEqual(gcd(*row), 1)
    case.assertGreater(row[-1], 0)
    check_part(case, low)
    check_part(case, high)
    case.assertLess(fraction(low), fraction(high))
    case.assertNotEqual(value_at(row, fraction(low)), 0)
    case.assertNotEqual(value_at(row, fraction(high)), 0)
    case.assertEqual(turns_as_told(row, fraction(low), fraction(high)), 1)


def check_tells(case, one, row, low, high):
    """That the peg tells the one root that the row has between low and high, two numbers near each other."""
    row = once(row)
    case.assertEqual(turns_as_told(row, low, high), 1, "the test itself asks too much")
    case.assertLessEqual(fraction(one[1]), low)
    case.assertLessEqual(high, fraction(one[2]))
    # What both rows have in common is nought at a number between, so both are nought at this one.
    both = common(row, one[0])
    case.assertEqual(sign_of(value_at(both, low)) * sign_of(value_at(both, high)), -1)
