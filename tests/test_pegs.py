"""Points 1 and 7 to 10: pegs."""

import unittest
from fractions import Fraction
from itertools import product

from helper import Limited, check_peg, enclosed, fraction, multiplied, pair, sign_of, turns_as_told, value_at
from rootpeg.errors import NoPart, NoQuotient, NoRow, NoStretch, NotAlone, PegError
from rootpeg.pegs import compare, narrowed, of_part, peg, sign_of_peg

HUGE = 10 ** 40 + 7
ERRORS = (NoPart, NoRow, NoStretch, NotAlone, NoQuotient)
PARTS = sorted({Fraction(top, bottom) for top in range(-5, 6) for bottom in (1, 2, 3, 7)})


def root_of(number):
    """A peg of the square root."""
    return peg([-number, 0, 1], (0, 1), (number + 1, 1))


class PegCase(Limited):
    def assert_refused(self, error, work, *given):
        with self.assertRaises(PegError) as caught:
            work(*given)
        self.assertIs(type(caught.exception), error, given)
        for other in ERRORS:
            self.assertEqual(isinstance(caught.exception, other), other is error)


class MakingPegs(PegCase):
    def assert_peg(self, row, low, high, wanted):
        for kind in (list, tuple):
            answer = peg(kind(row), low, high)
            self.assertEqual(answer, (wanted, low, high))
            check_peg(self, answer)

    def test_ordinary(self):
        self.assert_peg([-2, 0, 1], (1, 1), (2, 1), (-2, 0, 1))
        self.assert_peg([-2, 0, 1], (-2, 1), (1, 1), (-2, 0, 1))
        self.assert_peg([-1, 2], (-5, 3), (7, 3), (-1, 2))
        self.assert_peg([0, 1], (-1, 9), (2, 1), (0, 1))
        self.assert_peg([-6, 11, -6, 1], (3, 2), (5, 2), (-6, 11, -6, 1))

    def test_common_divisor(self):
        self.assert_peg([-4, 0, 2], (1, 1), (2, 1), (-2, 0, 1))
        self.assert_peg([-6, 12], (0, 1), (1, 1), (-1, 2))
        self.assert_peg([0, 7], (-1, 1), (1, 1), (0, 1))
        self.assert_peg([-2 * HUGE, 0, 4 * HUGE], (0, 1), (1, 1), (-1, 0, 2))

    def test_last_number_below_nought(self):
        self.assert_peg([2, 0, -1], (1, 1), (2, 1), (-2, 0, 1))
        self.assert_peg([1, -1], (0, 1), (2, 1), (-1, 1))
        self.assert_peg([6, 0, 0, -9], (0, 1), (1, 1), (-2, 0, 0, 3))
        self.assert_peg([-3, -6], (-1, 1), (0, 1), (1, 2))

    def test_other_roots_stay_in_the_row(self):
        # The row is the one handed in: it isn't made plain.
        row = multiplied([-2, 0, 1], [-5, 1], [-5, 1])
        self.assert_peg(row, (1, 1), (2, 1), tuple(row))
        row = multiplied([0, 1], [0, 1], [-1, 1])
        self.assert_peg(row, (1, 2), (2, 1), tuple(row))

    def test_no_row(self):
        for row in ([], [0], [5], [-5], [0, 0], [5, 0], [-2, 0, 1, 0], [-1, 1, 0, 0]):
            for kind in (list, tuple):
                self.assert_refused(NoRow, peg, kind(row), (1, 1), (2, 1))

    def test_no_stretch(self):
        for low, high in (((1, 1), (1, 1)), ((2, 1), (1, 1)), ((0, 1), (-1, HUGE)), ((1, 2), (1, 3))):
            self.assert_refused(NoStretch, peg, [-2, 0, 1], low, high)
            self.assert_refused(NoStretch, peg, (-1, 1), low, high)

    def test_nought_at_an_end(self):
        self.assert_refused(NotAlone, peg, [-1, 1], (1, 1), (2, 1))
        self.assert_refused(NotAlone, peg, [-1, 1], (0, 1), (1, 1))
        self.assert_refused(NotAlone, peg, [0, -1, 1], (0, 1), (1, 1))
        # There is one root within the stretch, and the row turns once, but an end is a root too.
        self.assertEqual(turns_as_told([0, -1, 1], Fraction(0), Fraction(2)), 1)
        self.assert_refused(NotAlone, peg, [0, -1, 1], (0, 1), (2, 1))
        self.assertEqual(turns_as_told([0, -1, 1], Fraction(-1), Fraction(1)), 1)
        self.assert_refused(NotAlone, peg, [0, -1, 1], (-1, 1), (1, 1))
        self.assert_refused(NotAlone, peg, [0, -1, 0, 1], (-1, 1), (1, 1))

    def test_turns_never(self):
        self.assert_refused(NotAlone, peg, [-2, 0, 1], (2, 1), (3, 1))
        self.assert_refused(NotAlone, peg, [1, 0, 1], (-1, 1), (1, 1))
        self.assert_refused(NotAlone, peg, [-1, 1], (2, 1), (3, 1))

    def test_turns_twice_and_more(self):
        self.assert_refused(NotAlone, peg, [-2, 0, 1], (-2, 1), (2, 1))
        self.assert_refused(NotAlone, peg, [1, -2, 1], (0, 1), (2, 1))
        self.assert_refused(NotAlone, peg, [1, 0, 10], (-1, 1), (1, 1))
        self.assert_refused(NotAlone, peg, [-6, 11, -6, 1], (0, 1), (4, 1))
        self.assert_refused(NotAlone, peg, [0, 0, 0, 1], (-1, 1), (1, 1))
        # It has just one root there, and other signs at the ends, but turns three times.
        self.assertEqual(turns_as_told([0, 1, 0, 10], Fraction(-1), Fraction(1)), 3)
        self.assert_refused(NotAlone, peg, [0, 1, 0, 10], (-1, 1), (1, 1))

    def test_the_order_of_refusals(self):
        self.assert_refused(NoRow, peg, [], (2, 1), (1, 1))
        self.assert_refused(NoRow, peg, [5], (1, 1), (1, 1))
        self.assert_refused(NoRow, peg, [-1, 1, 0], (1, 1), (1, 1))
        self.assert_refused(NoRow, peg, [-1, 1, 0], (1, 1), (2, 1))
        self.assert_refused(NoRow, peg, [1, 0, 10, 0], (-1, 1), (1, 1))
        self.assert_refused(NoStretch, peg, [-1, 1], (1, 1), (1, 1))
        self.assert_refused(NoStretch, peg, [-2, 0, 1], (2, 1), (-2, 1))
        self.assert_refused(NoStretch, peg, [-1, 1], (1, 1), (0, 1))

    def test_small_rows_as_told(self):
        ends = [Fraction(number) for number in (-2, 0, 1, 3)] + [Fraction(1, 2)]
        for row in product((-2, -1, 0, 1, 4), repeat=3):
            for low, high in product(ends, repeat=2):
                if row[-1] == 0:
                    wanted = NoRow
                elif not low < high:
                    wanted = NoStretch
                elif 0 in (value_at(row, low), value_at(row, high)) or turns_as_told(row, low, high) != 1:
                    wanted = NotAlone
                else:
                    check_peg(self, peg(row, pair(low), pair(high)))
                    continue
                self.assert_refused(wanted, peg, row, pair(low), pair(high))

    def test_large_ends(self):
        self.assert_peg([-HUGE, HUGE + 1], (HUGE - 1, HUGE), (HUGE + 1, HUGE + 2), (-HUGE, HUGE + 1))
        self.assert_refused(NotAlone, peg, [-HUGE, HUGE + 1], (HUGE, HUGE + 1), (1, 1))

    def test_what_is_handed_in_stays(self):
        row = [4, 0, -2]
        answer = peg(row, (1, 1), (2, 1))
        self.assertEqual(row, [4, 0, -2])
        row[0] = 9
        row.append(3)
        self.assertEqual(answer, ((-2, 0, 1), (1, 1), (2, 1)))

    def test_pegs_of_parts(self):
        for number in PARTS + [Fraction(HUGE, HUGE + 1), Fraction(-HUGE)]:
            answer = of_part(pair(number))
            wanted = ((-number.numerator, number.denominator), pair(number - 1), pair(number + 1))
            self.assertEqual(answer, wanted)
            check_peg(self, answer)

    def test_peg_of_nought(self):
        self.assertEqual(of_part((0, 1)), ((0, 1), (-1, 1), (1, 1)))
        check_peg(self, of_part((0, 1)))


class Narrower(PegCase):
    def assert_narrowed(self, one, width):
        answer = narrowed(one, pair(width))
        check_peg(self, answer)
        self.assertEqual(answer[0], one[0])
        low, high = fraction(answer[1]), fraction(answer[2])
        self.assertLessEqual(fraction(one[1]), low)
        self.assertLessEqual(high, fraction(one[2]))
        self.assertLessEqual(high - low, width)
        # Once is enough, and what is narrow enough stays.
        self.assertEqual(narrowed(answer, pair(width)), answer)
        self.assertEqual(narrowed(one, pair(width)), answer)
        return low, high

    def test_ordinary(self):
        for width in (Fraction(1), Fraction(1, 2), Fraction(1, 3), Fraction(1, 1000)):
            low, high = self.assert_narrowed(root_of(2), width)
            self.assertLess(low * low, 2)
            self.assertGreater(high * high, 2)

    def test_narrow_enough_already(self):
        one = ((-2, 0, 1), (1, 1), (3, 2))
        for width in ((1, 2), (51, 100), (1, 1), (HUGE, 1)):
            self.assertEqual(narrowed(one, width), one)
        self.assertNotEqual(narrowed(one, (49, 100)), one)
        self.assertEqual(narrowed(of_part((1, 3)), (2, 1)), of_part((1, 3)))

    def test_very_narrow(self):
        for one in (root_of(2), root_of(10 ** 9 + 7), peg([-5, 1, 0, 2], (0, 1), (HUGE, 1))):
            for width in (Fraction(1, 2 ** 64), Fraction(3, 2 ** 65 + 1), Fraction(1, HUGE), Fraction(1, 2 ** 300)):
                self.assert_narrowed(one, width)

    def test_below_nought(self):
        low, high = self.assert_narrowed(peg([-2, 0, 1], (-2, 1), (0, 1)), Fraction(1, 10 ** 20))
        self.assertLess(high, 0)
        self.assertLess(high * high, 2)
        self.assertGreater(low * low, 2)

    def test_a_root_that_is_a_part(self):
        for number in PARTS:
            for width in (Fraction(1), Fraction(1, 2), Fraction(1, 5), Fraction(1, 2 ** 64), Fraction(1, 2 ** 99 + 1)):
                low, high = self.assert_narrowed(of_part(pair(number)), width)
                self.assertTrue(low < number < high)

    def test_halving_meets_the_root(self):
        one = peg([-3, 8], (0, 1), (1, 1))
        for steps in range(12):
            low, high = self.assert_narrowed(one, Fraction(1, 2 ** steps))
            self.assertTrue(low < Fraction(3, 8) < high)
        one = peg(multiplied([-1, 2], [-2, 0, 1]), (-1, 3), (4, 3))
        for width in (Fraction(1), Fraction(1, 7), Fraction(1, 2 ** 70)):
            low, high = self.assert_narrowed(one, width)
            self.assertTrue(low < Fraction(1, 2) < high)

    def test_a_third_meets_the_root(self):
        for number in (Fraction(1, 3), Fraction(2, 3), Fraction(1, 4), Fraction(2, 5), Fraction(5, 9)):
            one = peg([-number.numerator, number.denominator], (0, 1), (1, 1))
            for width in (Fraction(1, 3), Fraction(1, 27), Fraction(1, 10 ** 30)):
                low, high = self.assert_narrowed(one, width)
                self.assertTrue(low < number < high)

    def test_other_roots_in_the_row(self):
        row = multiplied([-2, 0, 1], [-3, 2], [-7, 5], [-7, 5])
        one = peg(row, (141, 100), (142, 100))
        low, high = self.assert_narrowed(one, Fraction(1, 10 ** 25))
        self.assertLess(low * low, 2)
        self.assertGreater(high * high, 2)

    def test_refused(self):
        for width in ((0, 1), (-1, 1), (-1, HUGE), (-HUGE, 1)):
            self.assert_refused(NoStretch, narrowed, root_of(2), width)
            self.assert_refused(NoStretch, narrowed, of_part((0, 1)), width)

    def test_what_is_handed_in_stays(self):
        one = root_of(2)
        narrowed(one, (1, 100))
        self.assertEqual(one, ((-2, 0, 1), (0, 1), (3, 1)))


class Compared(PegCase):
    def assert_compared(self, one, other, wanted):
        for _ in range(2):
            for answer, told in ((compare(one, other), wanted), (compare(other, one), -wanted)):
                self.assertEqual(answer, told, (one, other))
                self.assertIs(type(answer), int)

    def test_ordinary(self):
        self.assert_compared(root_of(2), root_of(3), -1)
        self.assert_compared(root_of(3), root_of(2), 1)
        self.assert_compared(root_of(2), root_of(2), 0)
        self.assert_compared(root_of(2), of_part((-5, 1)), 1)
        self.assert_compared(root_of(2), peg([-2, 0, 1], (-2, 1), (0, 1)), 1)

    def test_one_number_by_other_stretches(self):
        pegs = [peg([-2, 0, 1], low, high) for low in ((-1, 1), (0, 1), (7, 5), (141421, 100000))
                for high in ((142, 100), (3, 2), (5, 1), (HUGE, 1))]
        for one, other in product(pegs, repeat=2):
            self.assert_compared(one, other, 0)

    def test_one_number_by_other_rows(self):
        rows = ([-2, 0, 1], [-4, 0, 0, 0, 1], multiplied([-2, 0, 1], [-1, 1]), multiplied([-2, 0, 1], [-4, 3]),
                multiplied([-2, 0, 1], [-3, 2], [-3, 2]), multiplied([-2, 0, 1], [1, 0, 0, 1]))
        for one, other in product(rows, repeat=2):
            self.assert_compared(peg(one, (7, 5), (142, 100)), peg(other, (41, 29), (17, 12)), 0)
            self.assert_compared(peg(one, (7, 5), (41, 28)), peg(other, (1414, 1000), (17, 12)), 0)

    def test_a_root_in_common_that_neither_tells(self):
        # Both rows have the root 3 by 2; the one peg tells it not, the other one does.
        one = peg(multiplied([-3, 2], [-2, 0, 1]), (1, 1), (29, 20))
        other = peg(multiplied([-3, 2], [-3, 0, 1]), (1, 1), (8, 5))
        self.assert_compared(one, other, -1)
        # Both rows have it, neither peg tells it.
        third = peg(multiplied([-3, 2], [-3, 0, 1]), (8, 5), (2, 1))
        self.assert_compared(one, third, -1)
        # The root in common is told by one of both, and lies just where both stretches are.
        fourth = peg(multiplied([-3, 2], [-2, 1]), (7, 5), (9, 5))
        self.assert_compared(other, fourth, 0)
        self.assert_compared(peg([-2, 0, 1], (0, 1), (9, 5)), fourth, -1)

    def test_roots_of_one_row(self):
        row = [-6, 11, -6, 1]
        pegs = [peg(row, (0, 1), (3, 2)), peg(row, (3, 2), (5, 2)), peg(row, (5, 2), (9, 1))]
        wide = [peg(row, (-9, 1), (19, 10)), peg(row, (11, 10), (29, 10)), peg(row, (21, 10), (99, 1))]
        for at, by in product(range(3), repeat=2):
            for one, other in product((pegs[at], wide[at]), (pegs[by], wide[by])):
                self.assert_compared(one, other, sign_of(at - by))

    def test_roots_near_each_other(self):
        row = multiplied([-HUGE, HUGE + 1], [-HUGE - 1, HUGE + 2])
        between = (2 * HUGE + 1, 2 * HUGE + 3)
        one, other = peg(row, (0, 1), between), peg(row, between, (2, 1))
        self.assert_compared(one, other, -1)
        self.assert_compared(one, one, 0)
        self.assert_compared(one, peg([-HUGE, HUGE + 1], (-9, 1), (9, 1)), 0)
        self.assert_compared(one, peg([-HUGE - 1, HUGE + 2], (-9, 1), (9, 1)), -1)
        self.assert_compared(other, peg([-HUGE - 1, HUGE + 2], (-9, 1), (9, 1)), 0)
        self.assert_compared(root_of(HUGE), root_of(HUGE + 1), -1)
        # The square root of 2, and that of 2 and very little.
        self.assert_compared(root_of(2), peg([-2 * HUGE - 1, 0, HUGE], (0, 1), (9, 1)), -1)

    def test_parts(self):
        numbers = PARTS[::3] + [Fraction(0), Fraction(1, HUGE), Fraction(-1, HUGE)]
        for one, other in product(numbers, repeat=2):
            self.assert_compared(of_part(pair(one)), of_part(pair(other)), sign_of(one - other))

    def test_a_part_by_other_rows(self):
        square = peg([-9, 0, 4], (0, 1), (2, 1))
        self.assert_compared(square, of_part((3, 2)), 0)
        self.assert_compared(square, of_part((-3, 2)), 1)
        self.assert_compared(square, peg(multiplied([-3, 2], [-2, 0, 1]), (142, 100), (9, 1)), 0)

    def test_numbers_near_a_part(self):
        for width in (10, 10 ** 10, 10 ** 30, 2 ** 200):
            low, high = enclosed(root_of(2), Fraction(1, width))
            self.assert_compared(root_of(2), of_part(pair(low)), 1)
            self.assert_compared(root_of(2), of_part(pair(high)), -1)
            self.assert_compared(peg([-2, 0, 1], (-2, 1), (0, 1)), of_part(pair(-low)), -1)
        self.assert_compared(of_part((HUGE, HUGE + 1)), of_part((1, 1)), -1)

    def test_rows_whose_values_have_much_in_common(self):
        one = peg(multiplied([-1, 1], [-1, 1], [-1, 1], [-5, 1]), (4, 1), (6, 1))
        other = peg(multiplied([1 - 2 ** 200, -2, 1], [-5, 1]), (3, 1), (7, 1))
        self.assert_compared(one, other, 0)
        self.assert_compared(one, peg(multiplied([1 - 2 ** 200, -2, 1], [-6, 1]), (3, 1), (7, 1)), -1)

    def test_stretches_that_touch(self):
        row = [3, -8, 4]
        one, other = peg(row, (0, 1), (1, 1)), peg(row, (1, 1), (2, 1))
        self.assert_compared(one, other, -1)
        self.assert_compared(peg([-1, 2], (0, 1), (1, 1)), peg([-3, 2], (1, 1), (2, 1)), -1)
        self.assert_compared(peg([-2, 0, 1], (1, 1), (2, 1)), peg([-1, 2], (0, 1), (1, 1)), 1)

    def test_one_stretch_within_the_other(self):
        self.assert_compared(peg([-1, 8], (0, 1), (8, 1)), peg([-3, 1], (2, 1), (4, 1)), -1)
        self.assert_compared(peg([-7, 1], (0, 1), (8, 1)), peg([-3, 1], (2, 1), (4, 1)), 1)
        self.assert_compared(peg([-3, 1], (0, 1), (8, 1)), peg([-9, 0, 1], (2, 1), (4, 1)), 0)

    def test_the_same_after_narrowing(self):
        for one in (root_of(2), of_part((3, 7)), peg([-5, 1, 0, 2], (0, 1), (9, 1))):
            for width in ((1, 3), (1, 2 ** 64)):
                self.assert_compared(one, narrowed(one, width), 0)


class SignOfPeg(PegCase):
    def assert_sign(self, one, wanted):
        answer = sign_of_peg(one)
        self.assertEqual(answer, wanted, one)
        self.assertIs(type(answer), int)

    def test_ordinary(self):
        for low in ((-1, 1), (0, 1), (1, 1)):
            self.assert_sign(peg([-2, 0, 1], low, (2, 1)), 1)
        for high in ((-1, 1), (0, 1), (1, 1)):
            self.assert_sign(peg([-2, 0, 1], (-2, 1), high), -1)

    def test_nought(self):
        for row in ([0, 1], [0, -2, 1], [0, -2, 0, 1], [0, 3, 5, 7]):
            for low, high in (((-1, 9), (1, 1)), ((-1, 1), (1, 9)), ((-1, HUGE), (1, HUGE + 1))):
                if turns_as_told(row, fraction(low), fraction(high)) == 1:
                    self.assert_sign(peg(row, low, high), 0)
        self.assert_sign(of_part((0, 1)), 0)
        self.assert_sign(narrowed(of_part((0, 1)), (1, HUGE)), 0)

    def test_nought_is_another_root_of_the_row(self):
        self.assert_sign(peg([0, -1, 1], (1, 2), (2, 1)), 1)
        self.assert_sign(peg([0, 1, 1], (-2, 1), (-1, 2)), -1)

    def test_parts(self):
        for number in PARTS + [Fraction(1, HUGE), Fraction(-1, HUGE)]:
            self.assert_sign(of_part(pair(number)), sign_of(number))
            row = [5 * number.numerator, -5 * number.denominator]
            self.assert_sign(peg(row, pair(number - 7), pair(number + HUGE)), sign_of(number))

    def test_near_nought(self):
        self.assert_sign(peg([-1, 0, HUGE], (-1, HUGE), (1, 1)), 1)
        self.assert_sign(peg([-1, 0, HUGE], (-1, 1), (1, HUGE)), -1)


if __name__ == "__main__":
    unittest.main()
