"""Whole numbers: divisions, roots, wrapping and fractions."""

from math import gcd, isqrt

from alikeplay.checks import require


def is_whole(value):
    """Tell whether the value is an integer."""
    return isinstance(value, int) and not isinstance(value, bool)


def is_between(value, low, high):
    """Tell whether the value is an integer from low to high."""
    return is_whole(value) and low <= value <= high


def floor_root(n):
    """Return the greatest integer whose square is at most n."""
    require(is_whole(n) and n >= 0, "n")
    return isqrt(n)


def quotient(n, d):
    """Return the greatest integer that is not greater than n divided by d."""
    _check_division(n, d)
    return n // d


def rest(n, d):
    """Return what the quotient of n by d leaves."""
    _check_division(n, d)
    return n % d


def cut(n, d):
    """Return n divided by d, rounded towards 0."""
    _check_division(n, d)
    size = abs(n) // abs(d)
    if (n < 0) == (d < 0):
        return size
    return -size


def _check_division(n, d):
    require(is_whole(n), "n")
    require(is_whole(d) and d != 0, "d")


def wrapped(n):
    """Return the integer of 32 bits that differs from n by a multiple of 4294967296."""
    require(is_whole(n), "n")
    return (n + 2147483648) % 4294967296 - 2147483648


def is_fraction(value):
    """Tell whether the value is a fraction in lowest terms."""
    if not isinstance(value, tuple) or len(value) != 2:
        return False
    n, d = value
    return is_whole(n) and is_whole(d) and d >= 1 and gcd(n, d) == 1


def fraction(n, d):
    """Return the fraction that is n divided by d."""
    _check_division(n, d)
    return _lowest(n, d)


def fraction_sum(a, b):
    """Return the sum of two fractions."""
    _check_fractions(a, b)
    return _lowest(a[0] * b[1] + b[0] * a[1], a[1] * b[1])


def fraction_less(a, b):
    """Tell whether the fraction a is less than the fraction b."""
    _check_fractions(a, b)
    return a[0] * b[1] < b[0] * a[1]


def _check_fractions(a, b):
    require(is_fraction(a), "a")
    require(is_fraction(b), "b")


def _lowest(n, d):
    divisor = gcd(n, d)
    if d < 0:
        divisor = -divisor
    return n // divisor, d // divisor
