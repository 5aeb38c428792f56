"""Refusals of what are no readings and no widths."""

from math import gcd

from keyedtime.errors import BadReading, BadWidth

# Times of even number are down, those of odd number are up.
NUMBERS = ((1, 3), (1, 3, 7))


def check_reading(times, reading):
    """Refuse with BadReading what is no reading of these times."""
    if len(reading) != len(times):
        raise BadReading("a reading has a number for each time")
    for at, number in enumerate(reading):
        if number not in NUMBERS[at % 2]:
            raise BadReading("a reading has 1 or 3 where the key is down, 1, 3 or 7 where it is up")


def check_width(width):
    """Refuse with BadWidth a tuple of two numbers that is no width."""
    top, bottom = width
    # A bottom below 1 needs no test of its own: no top from 0 on is below it.
    if not 0 <= top < bottom or gcd(top, bottom) != 1:
        raise BadWidth("a width is a fraction in lowest terms, from 0 on, below 1")
