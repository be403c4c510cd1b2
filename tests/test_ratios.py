"""Points 101, 102 and 103."""

import unittest
from fractions import Fraction

from tensorcompiler.errors import TextError, ZeroDenominator
from tensorcompiler.ratios import (
    compare, fraction, magnitude, minus, nearest, over, plus, read_fraction, times, whole, write_fraction)

BIG = 10 ** 60 + 7
SOME = (
    (0, 1), (1, 1), (-1, 1), (1, 2), (-1, 2), (5, 2), (-5, 2), (3, 7), (-22, 7), (BIG, 3), (-BIG, 10 ** 40),
    (1, BIG), (6, 1), (2, 3), (-2, 3),
)


def pair(x):
    return (x.numerator, x.denominator)


class Fractions(unittest.TestCase):
    def test_the_example(self):
        self.assertEqual(fraction(6, -4), (-3, 2))

    def test_signs_and_nought(self):
        self.assertEqual(fraction(6, 4), (3, 2))
        self.assertEqual(fraction(-6, 4), (-3, 2))
        self.assertEqual(fraction(-6, -4), (3, 2))
        self.assertEqual(fraction(0, 5), (0, 1))
        self.assertEqual(fraction(0, -5), (0, 1))
        self.assertEqual(fraction(7, -7), (-1, 1))
        self.assertEqual(fraction(5, 1), (5, 1))
        self.assertEqual(fraction(5, -1), (-5, 1))

    def test_many_digits(self):
        self.assertEqual(fraction(BIG * 6, -BIG * 4), (-3, 2))
        self.assertEqual(fraction(10 ** 500, 10 ** 499), (10, 1))
        self.assertEqual(fraction(10 ** 100 + 1, 10 ** 100), (10 ** 100 + 1, 10 ** 100))

    def test_the_denominator_nought(self):
        for top in (0, 1, -1, BIG):
            with self.assertRaises(ZeroDenominator):
                fraction(top, 0)

    def test_arithmetic_is_exact(self):
        for a in SOME:
            for b in SOME:
                x, y = Fraction(*a), Fraction(*b)
                self.assertEqual(plus(a, b), pair(x + y))
                self.assertEqual(minus(a, b), pair(x - y))
                self.assertEqual(times(a, b), pair(x * y))
                self.assertEqual(compare(a, b), (x > y) - (x < y))
                if b == (0, 1):
                    with self.assertRaises(ZeroDenominator):
                        over(a, b)
                else:
                    self.assertEqual(over(a, b), pair(x / y))

    def test_magnitude_and_whole(self):
        for a in SOME:
            self.assertEqual(magnitude(a), pair(abs(Fraction(*a))))
            self.assertEqual(whole(a), Fraction(*a).__floor__())
        self.assertEqual(whole((-1, 2)), -1)
        self.assertEqual(whole((-4, 1)), -4)

    def test_nearest(self):
        self.assertEqual(nearest((-5, 2)), -2)
        self.assertEqual(nearest((5, 2)), 3)
        self.assertEqual(nearest((1, 2)), 1)
        self.assertEqual(nearest((-1, 2)), 0)
        self.assertEqual(nearest((-3, 2)), -1)
        self.assertEqual(nearest((0, 1)), 0)
        self.assertEqual(nearest((-7, 1)), -7)
        for a in SOME:
            self.assertEqual(nearest(a), (Fraction(*a) + Fraction(1, 2)).__floor__())


class Texts(unittest.TestCase):
    def test_there_and_back(self):
        texts = ("0", "1", "-1", "1/2", "-1/2", "10/3", "-10/3", "1/10", "100", "-907/100")
        for text in texts:
            self.assertEqual(write_fraction(read_fraction(text)), text)
        self.assertEqual(read_fraction("-10/3"), (-10, 3))
        self.assertEqual(read_fraction("0"), (0, 1))
        self.assertEqual(write_fraction((-3, 2)), "-3/2")
        self.assertEqual(write_fraction((4, 1)), "4")
        for a in SOME:
            self.assertEqual(read_fraction(write_fraction(a)), a)

    def test_texts_that_are_nearly_right(self):
        wrong = (
            "", "-", "/", "1/", "/2", "-/2", "01", "-01", "00", "-0", "+1", "+0", "1/02", "01/2", "2/4", "-2/4",
            "6/3", "0/1", "0/5", "-0/5", "1/1", "5/1", "-5/1", "1/0", "0/0", "1/-2", "-1/-2", "1/+2", " 1", "1 ",
            "1 /2", "1/ 2", "1/2 ", "1\n", "\n1", "1/2\n", "--1", "1/2/3", "1//2", "1.5", "0.5", "1e3", "1_0", "0x1",
            "a", "1a", "\u0661", "1/\u0662", "\u00b2", "1/\u00b2", "\uff11", "1\u0660", "\u22121", "1\u20442", "\u2460",
        )
        for text in wrong:
            with self.subTest(text):
                with self.assertRaises(TextError):
                    read_fraction(text)

    def test_the_greatest_length(self):
        self.assertEqual(read_fraction("1" * 400), (int("1" * 400), 1))
        self.assertEqual(read_fraction("-" + "1" * 399), (-int("1" * 399), 1))
        halves = "1" * 398 + "/2"
        self.assertEqual(read_fraction(halves), (int("1" * 398), 2))
        self.assertEqual(write_fraction(read_fraction(halves)), halves)
        ones = "1/" + "3" * 398
        self.assertEqual(read_fraction(ones), (1, int("3" * 398)))
        for text in ("1" * 401, "-" + "1" * 400, "1" * 399 + "/2", "1/" + "3" * 399, "1" * 5000):
            with self.assertRaises(TextError):
                read_fraction(text)


if __name__ == "__main__":
    unittest.main()
