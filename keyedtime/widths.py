"""The widths of unsteadiness by which one reading of taps is allowed."""

from keyedtime.checks import check_reading, check_width
from keyedtime.ratios import greatest_of, is_above, least_of, lowest


def asked(one, other):
    """Tell the ratio that one (time, number) asks with another one; it may be below 0."""
    time, number = one
    other_time, other_number = other
    return (time * other_number - other_time * number, time + other_time)


def asked_by_pairs(times, reading):
    """Tell (pair, ratio) for all pairs of numbers of times, in their order."""
    read = list(zip(times, reading))
    return [
        ((at, behind), asked(one, other))
        for at, one in enumerate(read)
        for behind, other in enumerate(read)
    ]


def least_asked(times, reading):
    """Tell the least width that allows the reading of the times, and the first pair that asks it."""
    # Each time asks 0 with itself, so nothing below 0 is ever the greatest.
    width, asking = (0, 1), (0, 0)
    for pair, ratio in asked_by_pairs(times, reading):
        if is_above(ratio, width):
            width, asking = ratio, pair
    return (lowest(width), asking)


def least_width(taps, reading):
    """Tell the least width that allows the reading, and the first pair that asks it."""
    times = taps.times()
    check_reading(times, reading)
    return least_asked(times, reading)


def is_allowed(taps, reading, width):
    """Tell whether the width allows the reading."""
    return barring(taps, reading, width) is None


def units(taps, reading, width):
    """Tell the least and the greatest unit by which the width allows the reading, or None."""
    times = taps.times()
    check_reading(times, reading)
    check_width(width)
    top, bottom = width
    read = list(zip(times, reading))
    least = greatest_of([(time * bottom, number * bottom + top) for time, number in read])
    # The width is below 1 and each number 1 or more: these bottoms are above 0.
    greatest = least_of([(time * bottom, number * bottom - top) for time, number in read])
    if is_above(least, greatest):
        return None
    return (lowest(least), lowest(greatest))


def barring(taps, reading, width):
    """Tell the first pair that asks more than the width, or None."""
    times = taps.times()
    check_reading(times, reading)
    check_width(width)
    for pair, ratio in asked_by_pairs(times, reading):
        if is_above(ratio, width):
            return pair
    return None
