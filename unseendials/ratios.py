"""Ratios: rational numbers as pairs (top, bottom) in lowest terms with a positive bottom."""

from math import gcd


def ratio(top, bottom):
    """Return the ratio of two integers in lowest terms; the bottom is positive."""
    common = gcd(top, bottom)
    return top // common, bottom // common


def is_less(one, other):
    """Return whether one ratio is less than the other."""
    return one[0] * other[1] < other[0] * one[1]


def moved_by(number, top, bottom):
    """Return the ratio number plus top / bottom; the bottom is positive."""
    return ratio(number[0] * bottom + top * number[1], number[1] * bottom)
