"""Fractions as tuples (top, bottom) in lowest terms."""

from math import gcd

NONE = (0, 1)
WHOLE = (1, 1)


def fraction(top, bottom):
    """The fraction in lowest terms; the bottom is at least 1."""
    common = gcd(top, bottom)
    return top // common, bottom // common


def added(one, other):
    return fraction(one[0] * other[1] + other[0] * one[1], one[1] * other[1])


def taken_off(one, other):
    """The first one less the other one."""
    return fraction(one[0] * other[1] - other[0] * one[1], one[1] * other[1])


def multiplied(fractions):
    """The product; it is brought to lowest terms once, as that takes longest."""
    top = bottom = 1
    for factor in fractions:
        top *= factor[0]
        bottom *= factor[1]
    return fraction(top, bottom)


def divided(one, other):
    return fraction(one[0] * other[1], one[1] * other[0])


def halved(one):
    return fraction(one[0], 2 * one[1])
