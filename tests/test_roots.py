"""Points 1 and 12: all roots of a row."""

import unittest
from fractions import Fraction
from itertools import product
from math import comb

from helper import Limited, check_peg, check_tells, enclosed, fraction, multiplied, once, pair, real_roots, value_at
from rootpeg.errors import NoPart, NoQuotient, NoRow, NoStretch, NotAlone, PegError
from rootpeg.pegs import compare, of_part, peg
from rootpeg.roots import roots
from rootpeg.rows import plain

HUGE = 10 ** 40 + 7


class RootCase(Limited):
    def assert_pegs(self, row):
        """That the answer is as point 12 has it; the answer."""
        answer = roots(row)
        self.assertIs(type(answer), list)
        self.assertEqual(len(answer), real_roots(row))
        kept = tuple(plain(row))
        for one in answer:
            check_peg(self, one)
            self.assertEqual(one[0], kept)
        for one, other in zip(answer, answer[1:]):
            self.assertLessEqual(fraction(one[2]), fraction(other[1]))
            self.assertEqual(compare(one, other), -1)
        for kind in (list, tuple):
            self.assertEqual(roots(kind(row)), answer)
        return answer

    def assert_parts(self, row, *numbers):
        """That the roots are just these parts."""
        answer = self.assert_pegs(row)
        self.assertEqual(len(answer), len(numbers))
        for one, number in zip(answer, numbers):
            self.assertEqual(value_at(one[0], Fraction(number)), 0)
            self.assertTrue(fraction(one[1]) < number < fraction(one[2]))
            self.assertEqual(compare(one, of_part(pair(number))), 0)


class Ordinary(RootCase):
    def test_parts(self):
        self.assert_parts([-1, 1], 1)
        self.assert_parts([0, 1], 0)
        self.assert_parts([3, 2], Fraction(-3, 2))
        self.assert_parts([-6, 11, -6, 1], 1, 2, 3)
        self.assert_parts([-4, 0, 9], Fraction(-2, 3), Fraction(2, 3))
        self.assert_parts(multiplied([0, 1], [1, 2], [-1, 3], [-7, 1]), Fraction(-1, 2), 0, Fraction(1, 3), 7)

    def test_roots_that_are_no_parts(self):
        answer = self.assert_pegs([-2, 0, 1])
        for one, wanted in zip(answer, (peg([-2, 0, 1], (-2, 1), (-1, 1)), peg([-2, 0, 1], (1, 1), (2, 1)))):
            check_tells(self, one, [-2, 0, 1], *enclosed(wanted, Fraction(1, 10 ** 30)))
        self.assertEqual(len(self.assert_pegs([-1, -3, 0, 1])), 3)
        self.assertEqual(len(self.assert_pegs([-2, 0, 0, 1])), 1)
        self.assertEqual(len(self.assert_pegs([1, -1, 0, 0, 0, 1])), 1)
        self.assertEqual(len(self.assert_pegs([1, -4, 0, 0, 0, 1])), 3)

    def test_roots_where_halving_meets(self):
        for bottom in (1, 2, 4, 8, 64):
            numbers = [Fraction(top, bottom) for top in range(-4, 5)]
            self.assert_parts(multiplied(*[[-one.numerator, one.denominator] for one in numbers]), *numbers)
        # Halfway of halfway is a root too, and so on.
        numbers = [Fraction(-8), Fraction(-4), Fraction(-2), Fraction(-1), Fraction(0), Fraction(1), Fraction(8)]
        self.assert_parts(multiplied(*[[-one.numerator, one.denominator] for one in numbers]), *numbers)
        numbers = [Fraction(-many * 16, 8) for many in range(8, 0, -1)] + [Fraction(0), Fraction(16)]
        self.assert_parts(multiplied(*[[-one.numerator, one.denominator] for one in numbers]), *numbers)

    def test_roots_on_powers_of_two(self):
        for most in (1, 2, 7, 8, 64, 1023, 1024, 1025):
            self.assert_parts(multiplied([most, 1], [-most, 1]), -most, most)
            self.assert_parts(multiplied([most, 1], [0, 1], [-most, 1]), -most, 0, most)
            self.assert_parts([-most, 1], most)
            self.assert_parts([most, 1], -most)

    def test_last_number_below_nought(self):
        self.assert_parts([4, 0, -1], -2, 2)
        self.assertEqual(roots([4, 0, -1]), roots([-4, 0, 1]))

    def test_small_rows(self):
        for row in product((-3, -1, 0, 2), repeat=4):
            if any(row[1:]):
                self.assert_pegs(row)

    def test_long_rows(self):
        number = 1
        for many in range(5, 22):
            row = []
            for _ in range(many):
                number = number * 48271 % 2147483647
                row.append(number % 2001 - 1000)
            self.assert_pegs(row)


class Edges(RootCase):
    def test_roots_that_stand_more_than_once(self):
        self.assert_parts([1, -2, 1], 1)
        self.assert_parts([0, 0, 0, 5], 0)
        self.assert_parts(multiplied([-1, 2], [-1, 2], [3, 1], [3, 1], [3, 1], [0, 1]), -3, 0, Fraction(1, 2))
        row = multiplied([-2, 0, 1], [-2, 0, 1], [-1, 1])
        self.assertEqual(self.assert_pegs(row), roots(multiplied([-2, 0, 1], [-1, 1])))
        self.assertEqual(len(self.assert_pegs(multiplied(*[[-2, 0, 1]] * 6))), 2)

    def test_noughts_at_the_end(self):
        self.assert_parts([-1, 2, 0, 0], Fraction(1, 2))
        self.assertEqual(roots([-2, 0, 1, 0]), roots([-2, 0, 1]))

    def test_rows_with_the_same_plain_row(self):
        first = roots([-2, 0, 1])
        for row in ([-4, 0, 2], [2, 0, -1], [-2, 0, 1, 0, 0], [4, 0, -4, 0, 1]):
            self.assertEqual(roots(row), first)

    def test_roots_near_each_other(self):
        near, next_one = Fraction(HUGE, HUGE + 1), Fraction(HUGE + 1, HUGE + 2)
        self.assert_parts(multiplied([-HUGE, HUGE + 1], [-HUGE - 1, HUGE + 2]), near, next_one)
        self.assert_parts(multiplied([-HUGE, HUGE + 1], [-1, 1], [-HUGE - 1, HUGE + 2]), near, next_one, 1)
        self.assert_parts(multiplied([0, 1], [-1, HUGE], [1, HUGE]), Fraction(-1, HUGE), 0, Fraction(1, HUGE))
        # x to the twelfth less 2 (50 x less 1) (50 x less 1): two roots very near 1 by 50.
        self.assertEqual(len(self.assert_pegs([-2, 200, -5000] + [0] * 9 + [1])), 4)
        self.assertEqual(len(self.assert_pegs([2 * HUGE * HUGE - 1, 0, -4 * HUGE * HUGE, 0, 2 * HUGE * HUGE])), 4)

    def test_roots_far_from_each_other(self):
        self.assert_parts(multiplied([-1, HUGE], [-HUGE, 1], [HUGE, 1]), -HUGE, Fraction(1, HUGE), HUGE)
        self.assert_parts([-HUGE * HUGE, 0, 1], -HUGE, HUGE)

    def test_roots_that_are_no_real_numbers(self):
        self.assert_parts(multiplied([1, 0, 1], [-1, 1]), 1)
        self.assert_parts(multiplied([1, 1, 1], [1, 1, 1], [0, 1]), 0)
        # Those that are no real numbers stand very near one that is, and near each other.
        self.assert_parts(multiplied([1, 0, HUGE], [0, 1]), 0)
        self.assert_parts(multiplied([2, -2, 1], [-1, 1], [-2, 1]), 1, 2)

    def test_no_roots(self):
        for row in ([1, 0, 1], [1, 1, 1], [2, 0, 0, 0, 1], [1, 0, 2, 0, 1], [-1, 0, -1], [1, 0, HUGE],
                    [HUGE * HUGE + 1, -2 * HUGE, 1], [1, -3, 3], [5, 0, 5, 0]):
            for kind in (list, tuple):
                answer = roots(kind(row))
                self.assertEqual(answer, [])
                self.assertIs(type(answer), list)
            self.assertEqual(real_roots(row), 0)

    def test_many_roots(self):
        wilkinson = multiplied(*[[-many, 1] for many in range(1, 16)])
        self.assert_parts(wilkinson, *range(1, 16))
        # All roots of these are real, and between -1 and 1.
        one, other = [1], [0, 1]
        for _ in range(2, 20):
            one, other = other, [2 * number - (one[at] if at < len(one) else 0)
                                 for at, number in enumerate([0] + other)]
        self.assertEqual(len(self.assert_pegs(other)), 19)
        self.assertEqual(len(self.assert_pegs([comb(12, at) ** 2 for at in range(13)])), 12)

    def test_no_plain_row(self):
        for row in ([], [0], [5], [-5], [0, 0], [5, 0], [0, 0, 0, 0], [-HUGE, 0, 0]):
            for kind in (list, tuple):
                with self.assertRaises(PegError) as caught:
                    roots(kind(row))
                self.assertIs(type(caught.exception), NoRow)
                for other in (NoPart, NoStretch, NotAlone, NoQuotient):
                    self.assertNotIsInstance(caught.exception, other)


class NothingChanges(RootCase):
    def test_what_is_handed_in_stays(self):
        for row in ([4, 0, -2, 0], [-1, 1], [1, -2, 1], [1, 0, 1], [0, 0, 3]):
            before = list(row)
            roots(row)
            self.assertEqual(row, before)
        row = [7, 0, 0]
        with self.assertRaises(NoRow):
            roots(row)
        self.assertEqual(row, [7, 0, 0])

    def test_an_answer_is_the_askers_own(self):
        for row in ([-6, 11, -6, 1], [-2, 0, 1], [0, 1], [1, 0, 1]):
            first = roots(row)
            wanted = list(first)
            first.clear()
            self.assertEqual(roots(row), wanted)
            first.append(7)
            self.assertEqual(roots(row), wanted)
            self.assertEqual(roots(tuple(row)), wanted)

    def test_nothing_asked_later_changes_an_answer(self):
        first = roots([-2, 0, 1])
        wanted = list(first)
        second = roots([-2, 0, 1])
        self.assertIsNot(first, second)
        second.reverse()
        roots([-3, 0, 1])
        self.assertEqual(first, wanted)

    def test_what_happens_to_the_row_later_changes_no_answer(self):
        row = [-2, 0, 1]
        answer = roots(row)
        wanted = list(answer)
        row[0] = 9
        row.append(1)
        self.assertEqual(answer, wanted)
        self.assertEqual(roots([-2, 0, 1]), wanted)


class TheTestsOwn(Limited):
    def test_once(self):
        self.assertEqual(once([1, -2, 1, 0]), [-1, 1])
        self.assertEqual([real_roots(row) for row in ([1, -2, 1], [-2, 0, 1], [1, 0, 1], [5])], [1, 2, 0, 0])


if __name__ == "__main__":
    unittest.main()
