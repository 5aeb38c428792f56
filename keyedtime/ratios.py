"""Ratios: tuples (top, bottom) of whole numbers, bottom 1 or more.

A fraction of the document is a ratio in lowest terms. Within the package
ratios stay as they come, and are brought to lowest terms when they are told.
"""

from math import gcd


def lowest(ratio):
    """Tell the ratio in lowest terms."""
    top, bottom = ratio
    common = gcd(top, bottom)
    return (top // common, bottom // common)


def is_above(one, other):
    """Tell whether one ratio is greater than the other one."""
    return one[0] * other[1] > other[0] * one[1]


def greatest_of(ratios):
    """Tell the greatest of one or more ratios."""
    found = ratios[0]
    for ratio in ratios:
        if is_above(ratio, found):
            found = ratio
    return found


def least_of(ratios):
    """Tell the least of one or more ratios."""
    found = ratios[0]
    for ratio in ratios:
        if is_above(found, ratio):
            found = ratio
    return found
