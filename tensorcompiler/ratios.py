"""Exact fractions: pairs (numerator, denominator) without a common divisor."""

from math import gcd

from tensorcompiler.errors import TextError, ZeroDenominator
from tensorcompiler.numerals import read_integer

_TEXT_LIMIT = 400


def fraction(numerator, denominator):
    """Return the fraction that is equal to the quotient."""
    if denominator == 0:
        raise ZeroDenominator("the denominator is 0")
    divisor = gcd(numerator, denominator)
    if denominator < 0:
        divisor = -divisor
    return (numerator // divisor, denominator // divisor)


def plus(a, b):
    """Return the sum."""
    return fraction(a[0] * b[1] + b[0] * a[1], a[1] * b[1])


def minus(a, b):
    """Return the difference."""
    return fraction(a[0] * b[1] - b[0] * a[1], a[1] * b[1])


def times(a, b):
    """Return the product."""
    return fraction(a[0] * b[0], a[1] * b[1])


def over(a, b):
    """Return the quotient."""
    return fraction(a[0] * b[1], a[1] * b[0])


def compare(a, b):
    """Return -1, 0 or 1 if a is less than, equal to or greater than b."""
    left = a[0] * b[1]
    right = b[0] * a[1]
    if left < right:
        return -1
    if left > right:
        return 1
    return 0


def magnitude(a):
    """Return the absolute value."""
    return (abs(a[0]), a[1])


def whole(a):
    """Return the greatest integer that is at most a."""
    return a[0] // a[1]


def nearest(a):
    """Return the nearest integer, of two the greater one."""
    return (2 * a[0] + a[1]) // (2 * a[1])


def write_fraction(a):
    """Return the text of the fraction."""
    if a[1] == 1:
        return str(a[0])
    return f"{a[0]}/{a[1]}"


def read_fraction(text):
    """Return the fraction that has the text, or raise TextError."""
    if len(text) > _TEXT_LIMIT:
        raise TextError("the text of a fraction is too long")
    first, slash, second = text.partition("/")
    numerator = read_integer(first, _TEXT_LIMIT)
    if slash == "":
        return (numerator, 1)
    denominator = read_integer(second, _TEXT_LIMIT)
    if denominator < 2 or gcd(numerator, denominator) != 1:
        raise TextError("the text is not that of a fraction in its lowest terms")
    return (numerator, denominator)
