"""The document's words with fractions, by trying, and drawn cases; shared by the tests."""

from fractions import Fraction
from functools import lru_cache
from itertools import product


def asked_widths(times, reading):
    """The words of point [6], with fractions: the width that each pair asks, in the pairs' order."""
    told = {}
    for one, (s, k) in enumerate(zip(times, reading)):
        for other, (t, l) in enumerate(zip(times, reading)):
            told[(one, other)] = Fraction(s * l - t * k, s + t)
    return told


def least_by_words(times, reading):
    return max(asked_widths(times, reading).values())


def pair_of(fraction):
    return (fraction.numerator, fraction.denominator)


def numbers_at(at):
    return (1, 3, 7) if at % 2 else (1, 3)


@lru_cache(maxsize=None)
def all_tried(times, begin):
    """All readings of a tuple of times, the first of them of number begin: (width, reading), in order."""
    kinds = product(*[numbers_at(begin + at) for at in range(len(times))])
    return sorted((least_by_words(times, reading), reading) for reading in kinds)


def tried(times, width, begin=0):
    """Point [7] by trying all readings: (reading, width) of those that a width allows, in order."""
    every = all_tried(tuple(times), begin % 2)
    return [(list(reading), pair_of(least)) for least, reading in every if least <= width]


def grown(times, width):
    """The same for many times: readings grow by a number each, and end with the first pair that bars them."""
    found = [[]]
    for at, time in enumerate(times):
        longer = [reading + [number] for reading in found for number in numbers_at(at)]
        found = [reading for reading in longer if fits(times, reading, width)]
    ordered = sorted((least_by_words(times, reading), reading) for reading in found)
    return [(reading, pair_of(least)) for least, reading in ordered]


def fits(times, reading, width):
    """Whether the last time of a reading asks no more than a width, and is asked no more."""
    t, k = times[len(reading) - 1], reading[-1]
    for s, number in zip(times, reading):
        if Fraction(abs(s * k - t * number), s + t) > width:
            return False
    return True


def drawn(chance, counts=(1, 3, 5, 7, 25)):
    """Times and a reading; mostly near to each other, sometimes far from it."""
    many = chance.choice(counts)
    reading = [chance.choice(numbers_at(at)) for at in range(many)]
    if chance.random() < 0.2:
        most = chance.choice((3, 20, 9999))
        return [chance.randint(1, most) for _ in reading], reading
    unit, shaken = chance.randint(1, 1000), chance.choice((0, 5, 30, 60, 95))
    times = [number * unit * chance.randint(100 - shaken, 100 + shaken) // 100 for number in reading]
    return [max(1, min(9999, time)) for time in times], reading


def drawn_widths(chance, least):
    """Some widths below 1: any one, those at and close to the least one, and 0."""
    bottom = chance.randint(1, 40)
    near = [least, least - Fraction(1, 10 ** 9), least + Fraction(1, 10 ** 9), Fraction(0)]
    near.append(Fraction(chance.randrange(bottom), bottom))
    return [width for width in near if 0 <= width < 1]
