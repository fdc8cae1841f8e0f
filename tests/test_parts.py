"""Points 1 and 2: parts."""

import unittest
from fractions import Fraction
from math import gcd

from rootpeg.errors import NoPart, NoQuotient, NoRow, NoStretch, NotAlone, PegError
from rootpeg.parts import below, part, part_product, part_sum

HUGE = 10 ** 40 + 7


def pair(number):
    """The part that is told by a Fraction."""
    return (number.numerator, number.denominator)


SMALL = sorted({Fraction(top, bottom) for top in range(-7, 8) for bottom in range(1, 7)})


class PartCase(unittest.TestCase):
    def assert_part(self, answer, top, bottom):
        self.assertEqual(answer, (top, bottom))
        self.assertIs(type(answer), tuple)
        self.assertEqual([type(number) for number in answer], [int, int])


class MakingParts(PartCase):
    def test_ordinary(self):
        self.assert_part(part(1, 2), 1, 2)
        self.assert_part(part(6, 4), 3, 2)
        self.assert_part(part(-6, 4), -3, 2)
        self.assert_part(part(8, 4), 2, 1)
        self.assert_part(part(5, 1), 5, 1)
        self.assert_part(part(7, 7), 1, 1)

    def test_bottom_below_nought(self):
        self.assert_part(part(1, -2), -1, 2)
        self.assert_part(part(-6, -4), 3, 2)
        self.assert_part(part(9, -3), -3, 1)
        self.assert_part(part(1, -1), -1, 1)

    def test_nought(self):
        for bottom in (1, 2, -1, -5, HUGE, -HUGE):
            with self.subTest(bottom=bottom):
                self.assert_part(part(0, bottom), 0, 1)

    def test_refused(self):
        for top in (0, 1, -1, HUGE, -HUGE):
            with self.subTest(top=top):
                with self.assertRaises(NoPart) as caught:
                    part(top, 0)
                self.assertIs(type(caught.exception), NoPart)
                self.assertIsInstance(caught.exception, PegError)
                for other in (NoRow, NoStretch, NotAlone, NoQuotient):
                    self.assertNotIsInstance(caught.exception, other)

    def test_refused_again_and_again(self):
        for _ in range(2):
            with self.assertRaises(NoPart):
                part(3, 0)
            self.assert_part(part(3, 6), 1, 2)

    def test_thirty_digits_and_more(self):
        self.assert_part(part(6 * HUGE, 4 * HUGE), 3, 2)
        self.assert_part(part(6 * HUGE, -4 * HUGE), -3, 2)
        self.assert_part(part(HUGE, HUGE + 1), HUGE, HUGE + 1)
        self.assert_part(part(-HUGE - 1, HUGE), -HUGE - 1, HUGE)
        self.assert_part(part(10 ** 60, 10 ** 30), 10 ** 30, 1)
        self.assert_part(part(2 ** 400, -6 ** 200), -2 ** 200, 3 ** 200)

    def test_beyond_what_python_writes_out(self):
        wide = 10 ** 5000
        self.assert_part(part(wide, wide * 3), 1, 3)
        with self.assertRaises(NoPart):
            part(wide, 0)

    def test_all_small(self):
        for top in range(-30, 31):
            for bottom in [*range(-30, 0), *range(1, 31)]:
                answer = part(top, bottom)
                self.assert_part(answer, *pair(Fraction(top, bottom)))
                self.assertGreater(answer[1], 0)
                self.assertEqual(gcd(*answer), 1)


class Below(PartCase):
    def test_ordinary(self):
        self.assertIs(below((1, 3), (1, 2)), True)
        self.assertIs(below((1, 2), (1, 3)), False)
        self.assertIs(below((-1, 2), (-1, 3)), True)
        self.assertIs(below((-1, 3), (-1, 2)), False)
        self.assertIs(below((-1, 2), (1, 3)), True)
        self.assertIs(below((2, 3), (5, 7)), True)

    def test_alike(self):
        for at in ((0, 1), (1, 2), (-1, 2), (HUGE, HUGE + 1)):
            self.assertIs(below(at, at), False)
            self.assertIs(below(at, tuple(list(at))), False)

    def test_nought(self):
        self.assertIs(below((0, 1), (1, HUGE)), True)
        self.assertIs(below((1, HUGE), (0, 1)), False)
        self.assertIs(below((-1, HUGE), (0, 1)), True)
        self.assertIs(below((0, 1), (-1, HUGE)), False)

    def test_all_small(self):
        for one in SMALL:
            for other in SMALL:
                self.assertIs(below(pair(one), pair(other)), one < other)

    def test_thirty_digits_and_more(self):
        self.assertIs(below((HUGE, HUGE + 1), (HUGE + 1, HUGE + 2)), True)
        self.assertIs(below((HUGE + 1, HUGE + 2), (HUGE, HUGE + 1)), False)
        self.assertIs(below((-HUGE, HUGE + 1), (-HUGE - 1, HUGE + 2)), False)
        self.assertIs(below((1, HUGE + 1), (1, HUGE)), True)
        self.assertIs(below((10 ** 400, 1), (10 ** 400 + 1, 1)), True)


class SumsAndProducts(PartCase):
    def test_sum(self):
        self.assert_part(part_sum((1, 2), (1, 3)), 5, 6)
        self.assert_part(part_sum((1, 6), (1, 3)), 1, 2)
        self.assert_part(part_sum((1, 2), (1, 2)), 1, 1)
        self.assert_part(part_sum((3, 1), (-5, 1)), -2, 1)
        self.assert_part(part_sum((0, 1), (-5, 7)), -5, 7)

    def test_sum_of_nought(self):
        self.assert_part(part_sum((1, 2), (-1, 2)), 0, 1)
        self.assert_part(part_sum((-HUGE, 9), (HUGE, 9)), 0, 1)
        self.assert_part(part_sum((0, 1), (0, 1)), 0, 1)

    def test_product(self):
        self.assert_part(part_product((2, 3), (5, 7)), 10, 21)
        self.assert_part(part_product((2, 3), (3, 2)), 1, 1)
        self.assert_part(part_product((-2, 3), (3, 4)), -1, 2)
        self.assert_part(part_product((-2, 3), (-3, 4)), 1, 2)
        self.assert_part(part_product((1, 1), (-3, 4)), -3, 4)

    def test_product_of_nought(self):
        for at in ((0, 1), (1, 2), (-7, 3), (HUGE, HUGE + 1)):
            self.assert_part(part_product((0, 1), at), 0, 1)
            self.assert_part(part_product(at, (0, 1)), 0, 1)

    def test_all_small(self):
        for one in SMALL:
            for other in SMALL:
                self.assert_part(part_sum(pair(one), pair(other)), *pair(one + other))
                self.assert_part(part_product(pair(one), pair(other)), *pair(one * other))

    def test_thirty_digits_and_more(self):
        self.assert_part(part_sum((1, HUGE), (-1, HUGE + 1)), 1, HUGE * (HUGE + 1))
        self.assert_part(part_sum((HUGE, 3), (1, 3)), *pair(Fraction(HUGE + 1, 3)))
        self.assert_part(part_product((HUGE, HUGE + 1), (-HUGE - 1, HUGE)), -1, 1)
        self.assert_part(part_product((HUGE, 3), (HUGE, 2)), *pair(Fraction(HUGE * HUGE, 6)))

    def test_what_is_handed_in_stays(self):
        one, other = (-3, 4), (5, 6)
        for work in (below, part_sum, part_product):
            work(one, other)
            self.assertEqual((one, other), ((-3, 4), (5, 6)))

    def test_the_same_each_time(self):
        for _ in range(3):
            self.assert_part(part_sum((1, 4), (1, 4)), 1, 2)
            self.assert_part(part_product((1, 4), (2, 1)), 1, 2)
            self.assert_part(part_sum((1, 4), (3, 4)), 1, 1)


if __name__ == "__main__":
    unittest.main()
