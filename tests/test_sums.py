"""Points 1 and 11: sums, differences, products, quotients, and numbers taken from nought."""

import unittest
from fractions import Fraction
from itertools import product

from helper import (Limited, check_peg, check_tells, enclosed, fraction, inverse_row, multiplied, once,
                    opposite_row, pair, product_row, sign_of, sum_row, value_at)
from rootpeg.errors import NoPart, NoQuotient, NoRow, NoStretch, NotAlone
from rootpeg.pegs import compare, narrowed, of_part, peg, sign_of_peg
from rootpeg.sums import added, divided, opposite, taken, times

HUGE = 10 ** 40 + 7
NEAR = Fraction(1, 2 ** 300)
PARTS = [Fraction(0), Fraction(1), Fraction(-1), Fraction(2, 3), Fraction(-7, 5), Fraction(HUGE, 3), Fraction(1, HUGE)]
WORKS = (added, taken, times, divided)


def root(many, number):
    """A peg of the number's square root, cube root and so on."""
    return peg([-number] + [0] * (many - 1) + [1], (0, 1), (number + 1, 1))


MIXED = (
    of_part((3, 2)),
    root(2, 2),
    root(3, 2),
    peg([-2, 0, 1], (-2, 1), (0, 1)),
    peg([-1, -3, 0, 1], (-1, 1), (0, 1)),
    peg([-1, -3, 0, 1], (1, 1), (2, 1)),
    # Rows with other roots besides: the same number with another sign, nought, a root that stands twice.
    peg(multiplied([-3, 0, 1], [0, 1]), (1, 1), (9, 5)),
    peg(multiplied([-5, 3], [-2, 1], [-2, 1]), (1, 1), (9, 5)),
    peg([-5, 1, 3], (-2, 1), (0, 1)),
)


def between(work, one, other):
    """Two numbers very near each other with the answer between them, from the numbers of both pegs."""
    (low, high), (start, end) = enclosed(one, NEAR), enclosed(other, NEAR)
    if work is added:
        return low + start, high + end
    if work is taken:
        return low - end, high - start
    if work is divided:
        start, end = 1 / end, 1 / start
    corners = [here * there for here in (low, high) for there in (start, end)]
    return min(corners), max(corners)


def row_with(work, one, other):
    """A row that the answer is a root of, worked out by the test."""
    one, other = once(one[0]), once(other[0])
    if work is added:
        return sum_row(one, other)
    if work is taken:
        return sum_row(one, opposite_row(other))
    if work is times:
        return product_row(one, other)
    return product_row(one, inverse_row(other))


class SumCase(Limited):
    def assert_short(self, answer, one, other):
        check_peg(self, answer)
        self.assertLessEqual(len(answer[0]), 1 + (len(one[0]) - 1) * (len(other[0]) - 1))

    def assert_right(self, work, one, other):
        answer = work(one, other)
        self.assert_short(answer, one, other)
        check_tells(self, answer, row_with(work, one, other), *between(work, one, other))
        self.assertEqual(work(one, other), answer)

    def assert_tells(self, answer, one, other, wanted):
        """That the answer tells what the wanted peg tells."""
        self.assert_short(answer, one, other)
        low, high = enclosed(wanted, NEAR)
        check_tells(self, answer, wanted[0], low, high)
        self.assertEqual(compare(answer, wanted), 0)

    def assert_part(self, answer, one, other, number):
        self.assert_tells(answer, one, other, of_part(pair(number)))
        self.assertEqual(value_at(answer[0], number), 0)
        self.assertTrue(fraction(answer[1]) < number < fraction(answer[2]))


class OfParts(SumCase):
    def test_all_four(self):
        for one, other in product(PARTS, repeat=2):
            here, there = of_part(pair(one)), of_part(pair(other))
            self.assert_part(added(here, there), here, there, one + other)
            self.assert_part(taken(here, there), here, there, one - other)
            self.assert_part(times(here, there), here, there, one * other)
            if other:
                self.assert_part(divided(here, there), here, there, one / other)

    def test_a_row_of_two_numbers_leaves_no_choice(self):
        for work, wanted in ((added, (-13, 6)), (taken, (-5, 6)), (times, (-1, 1)), (divided, (-9, 4))):
            self.assertEqual(work(of_part((3, 2)), of_part((2, 3)))[0], wanted)

    def test_parts_by_longer_rows(self):
        one = peg([-9, 0, 4], (0, 1), (2, 1))
        other = peg(multiplied([1, 3], [-2, 0, 1]), (-1, 1), (1, 1))
        self.assert_part(added(one, other), one, other, Fraction(7, 6))
        self.assert_part(taken(one, other), one, other, Fraction(11, 6))
        self.assert_part(times(one, other), one, other, Fraction(-1, 2))
        self.assert_part(divided(one, other), one, other, Fraction(-9, 2))


class OfRoots(SumCase):
    def test_square_roots(self):
        two, three = root(2, 2), root(2, 3)
        self.assert_tells(added(two, three), two, three, peg([1, 0, -10, 0, 1], (3, 1), (4, 1)))
        self.assert_tells(taken(two, three), two, three, peg([1, 0, -10, 0, 1], (-1, 1), (0, 1)))
        self.assert_tells(taken(three, two), three, two, peg([1, 0, -10, 0, 1], (0, 1), (1, 1)))
        self.assert_tells(times(two, three), two, three, peg([-6, 0, 1], (2, 1), (3, 1)))
        self.assert_tells(divided(two, three), two, three, peg([-2, 0, 3], (0, 1), (1, 1)))
        self.assert_tells(divided(three, two), three, two, peg([-3, 0, 2], (1, 1), (2, 1)))

    def test_cube_roots(self):
        two, three = root(3, 2), root(3, 3)
        self.assert_tells(times(two, three), two, three, root(3, 6))
        self.assert_tells(divided(two, three), two, three, peg([-2, 0, 0, 3], (0, 1), (1, 1)))
        wanted = [-125, 0, 0, -87, 0, 0, -15, 0, 0, 1]
        self.assert_tells(added(two, three), two, three, peg(wanted, (2, 1), (3, 1)))
        self.assert_right(taken, two, three)

    def test_a_square_root_and_a_cube_root(self):
        one, other = root(2, 2), root(3, 3)
        wanted = peg([1, -36, 12, -6, -6, 0, 1], (2, 1), (3, 1))
        self.assert_tells(added(one, other), one, other, wanted)
        self.assert_tells(times(one, other), one, other, peg([-72, 0, 0, 0, 0, 0, 1], (2, 1), (3, 1)))

    def test_a_root_and_a_part(self):
        one, other = root(2, 2), of_part((1, 2))
        self.assert_tells(added(one, other), one, other, peg([-7, -4, 4], (1, 1), (2, 1)))
        self.assert_tells(taken(one, other), one, other, peg([-7, 4, 4], (0, 1), (1, 1)))
        self.assert_tells(times(one, other), one, other, peg([-1, 0, 2], (0, 1), (1, 1)))
        self.assert_tells(divided(one, other), one, other, peg([-8, 0, 1], (2, 1), (3, 1)))
        self.assert_tells(divided(other, one), other, one, peg([-1, 0, 8], (0, 1), (1, 1)))

    def test_each_with_each(self):
        for one, other in product(MIXED, repeat=2):
            for work in WORKS:
                self.assert_right(work, one, other)

    def test_wide_and_narrow_stretches(self):
        for one in (root(2, 2), peg([-2, 0, 1], (-1, 1), (HUGE, 1)), narrowed(root(2, 2), (1, HUGE))):
            for other in (peg([-3, 0, 1], (-HUGE, 1), (-1, HUGE)), peg([-3, 0, 1], (-2, 1), (1, 1))):
                for work in WORKS:
                    self.assert_right(work, one, other)
                    self.assert_right(work, other, one)

    def test_large_numbers(self):
        one = peg([-HUGE, 3, 10 ** 31 + 1], (0, 1), (HUGE, 1))
        other = peg([10 ** 33, -HUGE, 0, 7], (1, 10), (HUGE, 1))
        self.assertEqual(sign_of_peg(other), 1)
        for work in WORKS:
            self.assert_right(work, one, other)
            self.assert_right(work, other, one)

    def test_roots_near_each_other(self):
        row = multiplied([-HUGE, HUGE + 1], [-HUGE - 1, HUGE + 2])
        cut = (2 * HUGE + 1, 2 * HUGE + 3)
        one, other = peg(row, (0, 1), cut), peg(row, cut, (2, 1))
        near, next_one = Fraction(HUGE, HUGE + 1), Fraction(HUGE + 1, HUGE + 2)
        self.assert_part(taken(one, other), one, other, near - next_one)
        self.assert_part(added(one, other), one, other, near + next_one)
        self.assert_part(times(one, one), one, one, near * near)
        self.assert_part(divided(other, one), other, one, next_one / near)

    def test_sums_of_sums(self):
        one, other, third = root(2, 2), root(2, 3), root(2, 5)
        first = added(added(one, other), third)
        second = added(one, added(third, other))
        check_peg(self, first)
        self.assertEqual(len(first[0]), 9)
        self.assertEqual(compare(first, second), 0)
        self.assertEqual(compare(taken(first, third), added(other, one)), 0)
        # The product of sum and difference is 2 less 3.
        whole = times(added(one, other), taken(one, other))
        self.assertEqual(compare(whole, of_part((-1, 1))), 0)
        check_peg(self, whole)
        back = divided(times(first, third), third)
        check_peg(self, back)
        self.assertEqual(compare(back, first), 0)


class WithItself(SumCase):
    def test_itself(self):
        for one in MIXED:
            here = one[0]
            double = [number * 2 ** (len(here) - 1 - at) for at, number in enumerate(here)]
            low, high = enclosed(one, NEAR)
            answer = added(one, one)
            self.assert_short(answer, one, one)
            check_tells(self, answer, double, 2 * low, 2 * high)
            self.assert_part(taken(one, one), one, one, 0)
            self.assert_part(divided(one, one), one, one, 1)
            self.assert_right(times, one, one)

    def test_itself_taken_from_nought(self):
        for one in MIXED:
            other = opposite(one)
            self.assert_part(added(one, other), one, other, 0)
            self.assert_part(divided(one, other), one, other, -1)
            self.assert_right(taken, one, other)
            self.assert_right(times, one, other)

    def test_answers_that_are_parts(self):
        two = root(2, 2)
        self.assert_part(times(two, two), two, two, 2)
        self.assert_part(times(two, root(2, 8)), two, root(2, 8), 4)
        self.assert_part(divided(root(2, 8), two), root(2, 8), two, 2)
        self.assert_part(times(root(3, 2), root(3, 4)), root(3, 2), root(3, 4), 2)
        one, other = peg([-1, -2, 1], (2, 1), (3, 1)), peg([-1, -2, 1], (-1, 1), (0, 1))
        self.assert_part(added(one, other), one, other, 2)
        self.assert_part(times(one, other), one, other, -1)


class WithNought(SumCase):
    NOUGHTS = (
        of_part((0, 1)),
        peg([0, 3], (-1, HUGE), (7, 1)),
        peg([0, -2, 0, 1], (-1, 1), (1, 1)),
        peg([0, -7, 3], (-9, 1), (2, 1)),
        taken(root(2, 2), root(2, 2)),
    )

    def test_of_nought(self):
        for nought in self.NOUGHTS:
            self.assertEqual(sign_of_peg(nought), 0)
            for one in MIXED:
                self.assert_tells(added(one, nought), one, nought, one)
                self.assert_tells(added(nought, one), nought, one, one)
                self.assert_tells(taken(one, nought), one, nought, one)
                self.assert_tells(taken(nought, one), nought, one, opposite(one))
                self.assert_part(times(one, nought), one, nought, 0)
                self.assert_part(times(nought, one), nought, one, 0)
                self.assert_part(divided(nought, one), nought, one, 0)

    def test_nought_and_nought(self):
        for one, other in product(self.NOUGHTS, repeat=2):
            for work in (added, taken, times):
                self.assert_part(work(one, other), one, other, 0)

    def test_by_nought(self):
        for nought in self.NOUGHTS:
            for one in MIXED + self.NOUGHTS:
                with self.assertRaises(NoQuotient) as caught:
                    divided(one, nought)
                self.assertIs(type(caught.exception), NoQuotient)
                for other in (NoPart, NoRow, NoStretch, NotAlone):
                    self.assertNotIsInstance(caught.exception, other)

    def test_by_a_number_whose_stretch_holds_nought(self):
        for other in (peg([-2, 0, 1], (-1, 1), (9, 1)), peg([-2, 0, 1], (0, 1), (9, 1)), peg([1, 0, -2], (-9, 1), (0, 1)),
                      peg([-1, 3], (-5, 1), (4, 1)), peg([-1, 4], (-1, 1), (1, 1)), peg([-1, HUGE], (-HUGE, 1), (1, 1))):
            for one in MIXED[:4]:
                self.assert_right(divided, one, other)

    def test_by_a_number_whose_row_has_the_root_nought(self):
        # Turned round and without its noughts, the first row turns thrice where it turned once.
        for other in (peg(multiplied([0] * 6 + [1], [26, -10, 1], [-4, 1]), (3, 1), (7, 1)),
                      peg([0, 0, -2, 0, 1], (1, 1), (2, 1)), peg([0, -1, 1], (1, 2), (3, 1))):
            check_peg(self, other)
            one = of_part((3, 2))
            answer = divided(one, other)
            self.assert_short(answer, one, other)
            low, high = between(divided, one, other)
            check_tells(self, answer, row_with(divided, one, other), low, high)
            self.assertEqual(compare(times(answer, other), one), 0)


class Opposite(Limited):
    def test_ordinary(self):
        for one in MIXED + WithNought.NOUGHTS + (of_part((HUGE, 3)),):
            answer = opposite(one)
            check_peg(self, answer)
            self.assertEqual(len(answer[0]), len(one[0]))
            low, high = enclosed(one, NEAR)
            check_tells(self, answer, opposite_row(one[0]), -high, -low)
            self.assertEqual(compare(opposite(answer), one), 0)
            self.assertEqual(sign_of_peg(answer), -sign_of_peg(one))

    def test_rows_of_even_and_odd_length(self):
        self.assertEqual(opposite(of_part((2, 3)))[0], (2, 3))
        self.assertEqual(opposite(of_part((0, 1)))[0], (0, 1))
        # A row that can be made no shorter leaves no choice.
        self.assertEqual(opposite(peg([-1, -3, 0, 1], (1, 1), (2, 1)))[0], (1, -3, 0, 1))
        self.assertEqual(opposite(peg([-1, -2, 1], (2, 1), (3, 1)))[0], (-1, 2, 1))

    def test_on_the_way_through_both(self):
        for one in MIXED:
            for other in MIXED[:3]:
                self.assertEqual(compare(taken(one, other), opposite(taken(other, one))), 0)


class Order(Limited):
    def test_sums_keep_the_order(self):
        for one, other in product(MIXED, repeat=2):
            self.assertEqual(compare(one, other), sign_of_peg(taken(one, other)))
            low, high = enclosed(one, NEAR)
            start, end = enclosed(other, NEAR)
            wanted = 0 if low < end and start < high else sign_of(low - start)
            self.assertEqual(compare(one, other), wanted)

    def test_both_ways_round(self):
        for one, other in product(MIXED, repeat=2):
            self.assertEqual(compare(added(one, other), added(other, one)), 0)
            self.assertEqual(compare(times(one, other), times(other, one)), 0)
            self.assertEqual(compare(times(divided(one, other), divided(other, one)), of_part((1, 1))), 0)


class NothingChanges(Limited):
    def test_what_is_handed_in_stays(self):
        one = peg([-2, 0, 1], (0, 1), (2, 1))
        other = peg([-3, 0, 1], (-1, 1), (5, 1))
        for work in WORKS:
            first = work(one, other)
            self.assertEqual(one, ((-2, 0, 1), (0, 1), (2, 1)))
            self.assertEqual(other, ((-3, 0, 1), (-1, 1), (5, 1)))
            with self.assertRaises(NoQuotient):
                divided(one, of_part((0, 1)))
            self.assertEqual(work(one, other), first)
        opposite(one)
        self.assertEqual(one, ((-2, 0, 1), (0, 1), (2, 1)))


if __name__ == "__main__":
    unittest.main()
