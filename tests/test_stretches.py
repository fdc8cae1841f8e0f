"""Points 1, 5 and 6: how often a row turns in a stretch."""

import unittest
from fractions import Fraction
from itertools import product

from helper import Limited, multiplied, pair, turns_as_told
from rootpeg.stretches import turns

HUGE = 10 ** 40 + 7


class Turns(Limited):
    def assert_turns(self, row, low, high, wanted):
        for kind in (list, tuple):
            answer = turns(kind(row), pair(low), pair(high))
            self.assertEqual(answer, wanted, (row, low, high))
            self.assertIs(type(answer), int)

    def assert_as_told(self, row, low, high):
        self.assert_turns(row, low, high, turns_as_told(row, Fraction(low), Fraction(high)))

    def test_ordinary(self):
        self.assert_turns([-2, 0, 1], 1, 2, 1)
        self.assert_turns([-2, 0, 1], 2, 3, 0)
        self.assert_turns([-2, 0, 1], -2, -1, 1)
        self.assert_turns([-2, 0, 1], -2, 2, 2)
        self.assert_turns([2, -3, 1], 0, 3, 2)
        self.assert_turns([2, -3, 1], 0, Fraction(3, 2), 1)
        self.assert_turns([-6, 11, -6, 1], 0, 4, 3)
        self.assert_turns([-1, 1], 0, 1, 0)
        self.assert_turns([-1, 2], 0, 1, 1)

    def test_one_number(self):
        for number in (1, -1, 7, HUGE, -HUGE):
            for low, high in ((0, 1), (-1, 1), (-3, -2), (Fraction(1, 3), HUGE)):
                self.assert_turns([number], low, high, 0)

    def test_turns_without_roots(self):
        # Seen from the stretch these are 1 - y + y y and 1 + y + y y.
        self.assert_turns([1, -3, 3], 0, 1, 2)
        self.assert_turns([1, -1, 1], 0, 1, 0)
        self.assert_turns([1, 0, 1], -1, 1, 0)
        self.assert_turns([1, 0, 10], -1, 1, 2)

    def test_roots_that_stand_more_than_once(self):
        self.assert_turns([1, -2, 1], 0, 2, 2)
        self.assert_turns(multiplied(*[[-1, 2]] * 5), 0, 1, 5)
        self.assert_turns([0, 0, 1], -1, 1, 2)
        self.assert_turns([0, 0, 0, 1], -1, 1, 3)

    def test_noughts_are_left_out(self):
        # Seen from the stretch from 0 to 1: 1, 0, last number less 1.
        self.assert_turns([1, -2, 3], 0, 1, 0)
        self.assert_turns([1, -2, -1], 0, 1, 1)
        self.assert_turns([-1, 2, 3], 0, 1, 1)
        self.assert_turns([-1, 2, -3], 0, 1, 0)
        # Seen as 0, 4, -4, 0.
        self.assert_turns([0, -1, 0, 1], -1, 1, 1)
        # Two noughts side by side, between numbers of one sign and of two.
        self.assert_turns([1, -3, 3, 1], 0, 1, 0)
        self.assert_turns([1, -3, 3, -5], 0, 1, 1)

    def test_the_value_is_nought_at_an_end(self):
        self.assert_turns([0, 1], 0, 1, 0)
        self.assert_turns([0, 1], -1, 0, 0)
        self.assert_turns([0, -1, 1], 0, 1, 0)
        self.assert_turns([0, -1, 1], 0, 2, 1)
        self.assert_turns([0, -1, 1], -1, 1, 1)
        self.assert_turns([-1, 0, 1], -1, 1, 0)
        self.assert_turns([0, -1, 0, 1], -1, 1, 1)
        self.assert_turns([0, 0, 0, 5], 0, 1, 0)

    def test_the_first_number_is_nought(self):
        self.assert_turns([0, 0, -1, 2], Fraction(1, 4), 1, 1)
        self.assert_turns([0, 3], Fraction(-1, 4), 1, 1)

    def test_a_last_number_below_nought(self):
        self.assert_turns([2, 0, -1], 1, 2, 1)
        self.assert_turns([1, -1, -1], -3, 3, 2)

    def test_small_rows_as_told(self):
        ends = [Fraction(number) for number in (-3, -1, 0, 2)] + [Fraction(-1, 2), Fraction(5, 3)]
        for many in range(1, 5):
            for row in product((-3, -1, 0, 2), repeat=many):
                if row[-1] == 0:
                    continue
                for low in ends:
                    for high in ends:
                        if low < high:
                            answer = turns(row, pair(low), pair(high))
                            self.assertEqual(answer, turns_as_told(row, low, high), (row, low, high))

    def test_long_rows_as_told(self):
        number = 1
        for many in range(5, 25):
            row = []
            for _ in range(many):
                number = number * 48271 % 2147483647
                row.append(number % 2001 - 1000)
            row[-1] = row[-1] or 1
            for low, high in ((-1, 1), (Fraction(-7, 3), Fraction(9, 4)), (0, Fraction(1, 2)), (-5, 90)):
                self.assert_as_told(row, low, high)

    def test_across_nought(self):
        row = multiplied([1, 2], [0, 1], [-1, 2], [-3, 1])
        self.assert_turns(row, -1, 1, 3)
        self.assert_turns(row, Fraction(-1, 3), Fraction(1, 3), 1)
        self.assert_turns(row, -10, 10, 4)
        self.assert_turns(row, -4, -1, 0)

    def test_large_bottoms(self):
        # The root is at HUGE by HUGE and 1.
        row = [-HUGE, HUGE + 1]
        self.assert_turns(row, Fraction(HUGE - 1, HUGE), Fraction(HUGE + 1, HUGE + 2), 1)
        self.assert_turns(row, Fraction(HUGE + 1, HUGE + 2), 1, 0)
        self.assert_turns(row, Fraction(HUGE, HUGE + 1), 1, 0)
        near = multiplied(row, [-HUGE - 1, HUGE + 2])
        self.assert_turns(near, Fraction(HUGE - 1, HUGE), 1, 2)
        between = Fraction(2 * HUGE + 1, 2 * HUGE + 3)
        self.assert_turns(near, Fraction(HUGE - 1, HUGE), between, 1)
        self.assert_turns(near, between, 1, 1)
        self.assert_as_told([-2, 0, 0, HUGE], Fraction(1, 10 ** 50 + 3), Fraction(1, 10 ** 10 + 1))

    def test_large_numbers(self):
        self.assert_turns([-HUGE * HUGE, 0, 1], HUGE - 1, HUGE + 1, 1)
        self.assert_turns([1 - HUGE * HUGE, 0, 1], HUGE, HUGE + 1, 0)
        self.assert_turns([-HUGE * HUGE, 0, 1], -HUGE - 1, HUGE + 1, 2)
        self.assert_turns([HUGE] * 30, HUGE, HUGE ** 2, 0)
        self.assert_turns([10 ** 5000, -10 ** 5001], 0, 1, 1)

    def test_what_is_handed_in_stays(self):
        row = [-2, 0, 1]
        low, high = (1, 2), (5, 3)
        for _ in range(2):
            self.assertEqual(turns(row, low, high), 1)
            self.assertEqual(row, [-2, 0, 1])
            self.assertEqual((low, high), ((1, 2), (5, 3)))

    def test_a_changed_row_is_looked_at_anew(self):
        row = [-2, 0, 1]
        self.assertEqual(turns(row, (1, 1), (2, 1)), 1)
        row[0] = -5
        self.assertEqual(turns(row, (1, 1), (2, 1)), 0)


if __name__ == "__main__":
    unittest.main()
