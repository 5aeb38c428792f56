"""All readings of taps that a width allows, the nearest of them, and pieces of taps.

A part is a tuple of a time and the numbers that it may be meant as.
"""

from math import lcm

from keyedtime.checks import NUMBERS, check_width
from keyedtime.widths import least_asked

# The bottom of a least width is at most 9999 + 9999, so none of those below 1 is above
# this one: it allows all readings that any width below 1 allows.
WIDEST = (19997, 19998)


def parts_between(times, begin, end):
    """Tell the parts of the times from number `begin` to the one ahead of `end`."""
    return [(times[at], NUMBERS[at % 2]) for at in range(begin, end)]


def number_by(part, unit, width):
    """Tell the number as which the width allows a part with the unit, or None."""
    time, numbers = part
    over, under = unit
    top, bottom = width
    # Numbers are 2 apart at least and a width is below 1: two never fit one unit.
    for number in numbers:
        if (number * bottom - top) * over <= time * bottom * under <= (number * bottom + top) * over:
            return number
    return None


def reading_by(parts, unit, width):
    """Tell the one reading that the width allows with the unit, or None."""
    reading = [number_by(part, unit, width) for part in parts]
    if None in reading:
        return None
    return reading


def least_units(parts, width):
    """Tell the least unit that the width allows for each part and each of its numbers."""
    top, bottom = width
    return [
        (time * bottom, number * bottom + top)
        for time, numbers in parts
        for number in numbers
    ]


def allowed_readings(parts, width):
    """Tell all readings that the width allows, each once."""
    found = []
    # The least unit of a reading is the least one for one of its parts, so none is left out.
    for unit in least_units(parts, width):
        reading = reading_by(parts, unit, width)
        if reading is not None and reading not in found:
            found.append(reading)
    return found


def common_bottom(widths):
    """Tell the least bottom that all of the widths can be brought to."""
    common = 1
    for _, bottom in widths:
        common = lcm(common, bottom)
    return common


def in_order(parts, width):
    """Tell (reading, least width) for all readings that the width allows, the nearest first."""
    times = [time for time, _ in parts]
    found = allowed_readings(parts, width)
    widths = [least_asked(times, reading)[0] for reading in found]
    common = common_bottom(widths)
    ranked = [
        (top * (common // bottom), reading, (top, bottom))
        for reading, (top, bottom) in zip(found, widths)
    ]
    return [(reading, least) for _, reading, least in sorted(ranked)]


def readings(taps, width):
    """Tell (reading, least width) for all readings that the width allows, in order."""
    check_width(width)
    times = taps.times()
    return in_order(parts_between(times, 0, len(times)), width)


def readings_below_one(taps):
    """Tell (reading, least width) for all readings that widths below 1 allow, in order."""
    return readings(taps, WIDEST)


def nearest(taps):
    """Tell (reading, least width) for the first of all readings."""
    # All times meant as one unit are always allowed by a width below 1.
    return readings_below_one(taps)[0]


def next_width(taps):
    """Tell the width of the second one of all readings below 1, or None."""
    found = readings_below_one(taps)
    if len(found) < 2:
        return None
    return found[1][1]


def piece_end(times, begin, width):
    """Tell the number behind the last time of the longest piece from number `begin` on."""
    end = begin + 1
    while end < len(times) and allowed_readings(parts_between(times, begin, end + 1), width):
        end += 1
    return end


def pieces(taps, width):
    """Tell the fewest pieces that the width allows, (begin, end, reading), each as long as can be."""
    check_width(width)
    times = taps.times()
    found = []
    begin = 0
    # What is left of a piece without its first times is allowed too, so to take the
    # longest each time asks for no more pieces than any other way.
    while begin < len(times):
        end = piece_end(times, begin, width)
        reading, _ = in_order(parts_between(times, begin, end), width)[0]
        found.append((begin, end, reading))
        begin = end
    return found
