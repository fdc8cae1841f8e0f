"""Points 1, 3 and 4: rows."""

import unittest
from fractions import Fraction
from itertools import product
from math import gcd

from helper import Limited, multiplied, value_at
from rootpeg.errors import NoPart, NoQuotient, NoRow, NoStretch, NotAlone, PegError
from rootpeg.rows import common_row, plain, quotient, sign_at

HUGE = 10 ** 40 + 7

# Bare rows none of which is a product of others: no two have a root in common.
SIMPLE = (
    [0, 1],
    [-1, 1],
    [1, 1],
    [-2, 3],
    [3, 4],
    [-2, 0, 1],
    [1, 0, 1],
    [1, 1, 1],
    [-5, 0, 0, 2],
    [2, 0, 0, 0, 1],
    [-1, -1, 0, 0, 0, 1],
)


class SignAt(Limited):
    def assert_sign(self, row, at, sign):
        for kind in (list, tuple):
            answer = sign_at(kind(row), at)
            self.assertEqual(answer, sign, (row, at))
            self.assertIs(type(answer), int)

    def test_ordinary(self):
        self.assert_sign([-2, 0, 1], (1, 1), -1)
        self.assert_sign([-2, 0, 1], (2, 1), 1)
        self.assert_sign([-2, 0, 1], (-1, 1), -1)
        self.assert_sign([-2, 0, 1], (-2, 1), 1)
        self.assert_sign([-2, 0, 1], (7, 5), -1)
        self.assert_sign([-2, 0, 1], (3, 2), 1)
        self.assert_sign([1, 2, 3], (0, 1), 1)
        self.assert_sign([-1, 2, 3], (0, 1), -1)

    def test_the_first_number_stands_alone(self):
        self.assert_sign([-3, 1], (4, 1), 1)
        self.assert_sign([1, -3], (4, 1), -1)
        self.assert_sign([1, -3], (1, 4), 1)
        self.assert_sign([-3, 1], (1, 4), -1)

    def test_just_nought(self):
        self.assert_sign([-1, 2], (1, 2), 0)
        self.assert_sign([0, 5], (0, 1), 0)
        self.assert_sign([1, 2, 1], (-1, 1), 0)
        self.assert_sign([-4, 0, 9], (2, 3), 0)
        self.assert_sign([-4, 0, 9], (-2, 3), 0)
        self.assert_sign([8, 0, 0, 27], (-2, 3), 0)

    def test_no_numbers(self):
        for at in ((0, 1), (1, 2), (-HUGE, 3)):
            self.assert_sign([], at, 0)

    def test_one_number(self):
        for at in ((0, 1), (1, 2), (-HUGE, 3)):
            self.assert_sign([4], at, 1)
            self.assert_sign([-4], at, -1)
            self.assert_sign([0], at, 0)

    def test_noughts(self):
        for at in ((0, 1), (1, 2), (-5, 3)):
            self.assert_sign([0, 0, 0], at, 0)

    def test_noughts_at_the_end(self):
        for many in range(4):
            self.assert_sign([-1, 2] + [0] * many, (1, 2), 0)
            self.assert_sign([-1, 2] + [0] * many, (2, 3), 1)
            self.assert_sign([-1, 2] + [0] * many, (-2, 3), -1)
            self.assert_sign([7] + [0] * many, (-2, 3), 1)

    def test_last_number_below_nought(self):
        self.assert_sign([2, 0, -1], (1, 1), 1)
        self.assert_sign([2, 0, -1], (2, 1), -1)
        self.assert_sign([2, 0, 0, -1], (-2, 1), 1)

    def test_all_small(self):
        ats = sorted({Fraction(top, bottom) for top in range(-4, 5) for bottom in (1, 2, 3)})
        for many in range(1, 5):
            for row in product((-3, -1, 0, 2), repeat=many):
                for number in ats:
                    value = value_at(row, number)
                    self.assert_sign(row, (number.numerator, number.denominator), (value > 0) - (value < 0))

    def test_thirty_digits_and_more(self):
        self.assert_sign([-HUGE, HUGE + 1], (HUGE, HUGE + 1), 0)
        self.assert_sign([-HUGE, HUGE + 1], (HUGE + 1, HUGE + 2), 1)
        self.assert_sign([-HUGE, HUGE + 1], (HUGE - 1, HUGE), -1)
        self.assert_sign([-HUGE * HUGE, 0, 1], (HUGE, 1), 0)
        self.assert_sign([-HUGE * HUGE, 0, 1], (-HUGE, 1), 0)
        self.assert_sign([1 - HUGE * HUGE, 0, 1], (HUGE, 1), 1)
        self.assert_sign([-1 - HUGE * HUGE, 0, 1], (-HUGE, 1), -1)

    def test_many_numbers(self):
        self.assert_sign([1] * 301, (-1, 1), 1)
        self.assert_sign([1] * 300, (-1, 1), 0)
        self.assert_sign([-1] + [0] * 2000 + [1], (HUGE + 1, HUGE), 1)
        self.assert_sign([-1] + [0] * 2000 + [1], (HUGE, HUGE + 1), -1)

    def test_what_is_handed_in_stays(self):
        row = [-1, 0, 2, 0, 0]
        at = (1, 2)
        sign_at(row, at)
        self.assertEqual(row, [-1, 0, 2, 0, 0])
        self.assertEqual(at, (1, 2))

    def test_a_changed_row_is_looked_at_anew(self):
        row = [-1, 2]
        self.assertEqual(sign_at(row, (1, 1)), 1)
        row[0] = -3
        self.assertEqual(sign_at(row, (1, 1)), -1)
        row[0] = -2
        self.assertEqual(sign_at(row, (1, 1)), 0)


class CommonRow(Limited):
    """Not promised itself: what plain rows and comparing rest on."""

    def assert_common(self, one, other, wanted):
        for here, there in ((one, other), (other, one), (tuple(one), tuple(other))):
            self.assertEqual(common_row(here, there), wanted)

    def test_ordinary(self):
        for one, other, both in product(SIMPLE, repeat=3):
            wanted = multiplied(both, one) if one == other else both
            self.assert_common(multiplied(one, both), multiplied(other, both), wanted)

    def test_nothing_in_common(self):
        self.assert_common([-1, 1], [-2, 1], [1])
        self.assert_common([7], [-2, 1], [1])
        self.assert_common([-1, 1], [-1 - 2 ** 65, 1], [1])
        self.assert_common([-1, 1], [-1 - HUGE ** 9, 1], [1])

    def test_values_that_have_much_in_common(self):
        # At places of 1 and a power of 2, the values of these have large powers of 2 in common.
        one = multiplied([-1, 1], [-1, 1], [-1, 1])
        other = [1 - 2 ** 200, -2, 1]
        self.assert_common(one, other, [1])
        for both in ([-5, 1], [1, 3, 7], [-HUGE, 0, HUGE + 1]):
            self.assert_common(multiplied(one, both), multiplied(other, both), both)
        once = multiplied([-1, 1], other)
        self.assertEqual(plain(multiplied(one, other)), once)
        self.assertEqual(plain(multiplied(once, one, other, other)), once)

    def test_a_common_row_of_larger_numbers(self):
        # What divides a row may have far larger numbers than the row.
        short = multiplied(*[[1, 1]] * 150)
        row = multiplied(short, *[[-1, 1]] * 150)
        self.assert_common(row, multiplied(short, [5, 1]), short)

    def test_quotient(self):
        for one, other in product(SIMPLE, repeat=2):
            self.assertEqual(quotient(multiplied(one, other), other), one)
            if one != other:
                self.assertIsNone(quotient(multiplied(one, one), other))
        self.assertIsNone(quotient([-1, 1], [1, 0, 1]))
        self.assertIsNone(quotient([1, 1, 1], [-1, 2]))


class Plain(Limited):
    def assert_plain(self, row, wanted):
        for kind in (list, tuple):
            answer = plain(kind(row))
            self.assertEqual(answer, wanted, row)
            self.assertIs(type(answer), list)
            self.assertEqual({type(number) for number in answer}, {int})

    def test_plain_already(self):
        for row in SIMPLE:
            self.assert_plain(row, row)

    def test_common_divisor(self):
        self.assert_plain([6, 0, 4], [3, 0, 2])
        self.assert_plain([0, 7], [0, 1])
        self.assert_plain([5, 10, 15], [1, 2, 3])

    def test_last_number_below_nought(self):
        self.assert_plain([1, -1], [-1, 1])
        self.assert_plain([2, 0, -1], [-2, 0, 1])
        self.assert_plain([-6, 0, -4], [3, 0, 2])
        self.assert_plain([0, -1], [0, 1])

    def test_noughts_at_the_end(self):
        self.assert_plain([-2, 0, 1, 0], [-2, 0, 1])
        self.assert_plain([3, -6, 0, 0, 0], [-1, 2])
        self.assert_plain([1, -2, 1, 0, 0], [-1, 1])

    def test_noughts_at_the_beginning(self):
        self.assert_plain([0, 0, 1], [0, 1])
        self.assert_plain([0, 0, 0, -4, 0], [0, 1])
        self.assert_plain([0, 0, -1, 1], [0, -1, 1])

    def test_roots_more_than_once(self):
        self.assert_plain([1, 2, 1], [1, 1])
        self.assert_plain([-1, 3, -3, 1], [-1, 1])
        self.assert_plain([4, -12, 9], [-2, 3])
        self.assert_plain([4, 0, -4, 0, 1], [-2, 0, 1])
        self.assert_plain(multiplied(*[[-1, 1]] * 25), [-1, 1])

    def test_roots_that_are_no_real_numbers(self):
        self.assert_plain([1, 0, 1], [1, 0, 1])
        self.assert_plain([1, 0, 2, 0, 1], [1, 0, 1])
        self.assert_plain(multiplied([1, 1, 1], [1, 1, 1], [1, 1, 1]), [1, 1, 1])
        self.assert_plain(multiplied([1, 0, 1], [1, 0, 1], [-1, 1]), multiplied([1, 0, 1], [-1, 1]))

    def test_each_root_stays_once(self):
        for times in product(range(4), repeat=3):
            for chosen in (SIMPLE[0:3], SIMPLE[3:6], SIMPLE[6:9], SIMPLE[8:11], SIMPLE[1:11:4]):
                if not any(times):
                    continue
                row = multiplied(*[one for one, many in zip(chosen, times) for _ in range(many)])
                wanted = multiplied(*[one for one, many in zip(chosen, times) if many])
                self.assert_plain(row, wanted)
                self.assert_plain([-6 * number for number in row] + [0, 0], wanted)

    def test_all_simple_rows_together(self):
        once = multiplied(*SIMPLE)
        self.assert_plain(multiplied(once, once), once)
        self.assert_plain(multiplied(once, *SIMPLE[::2]), once)

    def test_all_small_are_as_told(self):
        for row in product((-4, -2, 0, 1, 6), repeat=4):
            if not any(row[1:]):
                continue
            answer = plain(row)
            self.assertGreater(answer[-1], 0)
            self.assertEqual(gcd(*answer), 1)
            self.assertEqual(plain(answer), answer)
            for number in {Fraction(top, bottom) for top in range(-6, 7) for bottom in range(1, 7)}:
                self.assertEqual(value_at(row, number) == 0, value_at(answer, number) == 0)

    def test_refused(self):
        for row in ([], [0], [5], [-5], [0, 0], [5, 0], [0, 0, 0, 0], [-HUGE, 0, 0]):
            for kind in (list, tuple):
                with self.subTest(row=row, kind=kind):
                    with self.assertRaises(NoRow) as caught:
                        plain(kind(row))
                    self.assertIs(type(caught.exception), NoRow)
                    self.assertIsInstance(caught.exception, PegError)
                    for other in (NoPart, NoStretch, NotAlone, NoQuotient):
                        self.assertNotIsInstance(caught.exception, other)

    def test_thirty_digits_and_more(self):
        self.assert_plain([-HUGE, HUGE], [-1, 1])
        self.assert_plain([HUGE, -HUGE - 1], [-HUGE, HUGE + 1])
        one, other = [-HUGE, HUGE + 1], [HUGE + 2, 0, HUGE - 6]
        wanted = multiplied(one, other)
        self.assertEqual(gcd(*wanted), 1)
        self.assert_plain(multiplied(one, one, one, other, other), wanted)
        self.assert_plain([-HUGE * number for number in multiplied(one, one, other)], wanted)
        # The roots of the first are so near each other that a float can't part them.
        near = multiplied([-HUGE, HUGE + 1], [-HUGE - 1, HUGE + 2])
        self.assert_plain(near, near)
        self.assert_plain(multiplied(near, near), near)

    def test_beyond_what_python_writes_out(self):
        wide = 10 ** 5000
        self.assert_plain([wide, -wide], [-1, 1])
        with self.assertRaises(NoRow):
            plain([wide])

    def test_many_numbers(self):
        gap = [0] * 400
        self.assert_plain([-1] + gap + [1], [-1] + gap + [1])
        self.assert_plain(gap + [5], [0, 1])
        self.assert_plain([1] * 40, [1] * 40)

    def test_what_is_handed_in_stays(self):
        for row in ([4, -8, 4, 0, 0], [-1, 1], [2, 0, -2], [0, 0, 3]):
            before = list(row)
            plain(row)
            self.assertEqual(row, before)
        row = [7, 0, 0]
        with self.assertRaises(NoRow):
            plain(row)
        self.assertEqual(row, [7, 0, 0])

    def test_an_answer_is_the_askers_own(self):
        for row in ([-1, 1], [0, 1], [-2, 0, 1], [1, 2, 1], [-6, 0, 12]):
            before = list(row)
            first = plain(row)
            wanted = list(first)
            first[0] = 99
            first.append(77)
            self.assertEqual(row, before)
            self.assertEqual(plain(row), wanted)
            self.assertEqual(plain(tuple(row)), wanted)

    def test_nothing_asked_later_changes_an_answer(self):
        first = plain([1, 2, 1])
        same = plain([1, 2, 1])
        self.assertIsNot(first, same)
        same.clear()
        plain([-2, 0, 1])
        with self.assertRaises(NoRow):
            plain([])
        self.assertEqual(first, [1, 1])

    def test_what_happens_to_the_row_later_changes_no_answer(self):
        row = [-2, 0, 1]
        answer = plain(row)
        row[0] = 5
        row.append(3)
        self.assertEqual(answer, [-2, 0, 1])


if __name__ == "__main__":
    unittest.main()
