"""Points [4], [5] and [6], and points [1] and [2] as far as they speak of these."""

import inspect
import random
import unittest
from fractions import Fraction
from math import gcd

from keyedtime import widths
from keyedtime.errors import BadReading, BadWidth
from keyedtime.taps import Taps
from keyedtime.widths import barring, is_allowed, least_width, units
from tests.by_words import asked_widths, drawn, drawn_widths, pair_of

BY_WIDTH = (is_allowed, units, barring)


class ReadingTest(unittest.TestCase):
    """Point [4]."""

    def refused(self, times, reading, width=(1, 2)):
        taps = Taps(times)
        handed = list(reading)
        with self.assertRaises(BadReading):
            least_width(taps, handed)
        for asked in BY_WIDTH:
            with self.assertRaises(BadReading):
                asked(taps, handed, width)
        self.assertEqual(handed, reading)
        self.assertEqual(taps.times(), times)

    def test_wrong_counts(self):
        for reading in ([], [1, 1], [1, 1, 1, 1], [1, 1, 1, 1, 1], [1]):
            self.refused([5, 5, 5], reading)
        for reading in ([], [1, 1], [1, 1, 1]):
            self.refused([5], reading)

    def test_seven_where_the_key_is_down(self):
        self.refused([5], [7])
        self.refused([5, 5, 5], [7, 1, 1])
        self.refused([5, 5, 5], [1, 1, 7])
        self.refused([5, 5, 5, 5, 5], [1, 7, 7, 7, 1])

    def test_other_numbers(self):
        for bad in (0, 2, 4, 5, 6, 8, 9, -1, -3, -7, 10 ** 5000):
            for at in range(3):
                reading = [1, 3, 3]
                reading[at] = bad
                self.refused([5, 5, 5], reading)

    def test_ahead_of_a_bad_width(self):
        for width in ((1, 1), (2, 4), (-1, 2), (1, 0)):
            self.refused([5, 5, 5], [1, 2, 1], width)
            self.refused([5, 5, 5], [1, 1], width)
            self.refused([5, 5, 5], [], width)

    def test_all_good_numbers_are_taken(self):
        taps = Taps([5, 5, 5])
        for first in (1, 3):
            for gap in (1, 3, 7):
                for last in (1, 3):
                    least_width(taps, [first, gap, last])
                    for asked in BY_WIDTH:
                        asked(taps, [first, gap, last], (1, 2))


class WidthTest(unittest.TestCase):
    """Point [5], which widths there are."""

    def test_taken(self):
        taps = Taps([5, 5, 5])
        for width in ((0, 1), (998, 999), (1, 2), (1, 10 ** 30), (10 ** 30 - 1, 10 ** 30)):
            self.assertIs(is_allowed(taps, [1, 1, 1], width), True)
            self.assertIsNotNone(units(taps, [1, 1, 1], width))
            self.assertIsNone(barring(taps, [1, 1, 1], width))

    def test_refused(self):
        bad = [(1, 1), (3, 2), (-1, 2), (1, 0), (1, -2), (0, 2), (2, 4), (0, 0), (0, -1)]
        bad += [(-1, -2), (-1, 1), (2, 1), (6, 9), (10, 10), (10 ** 5000, 3)]
        for width in bad:
            for asked in BY_WIDTH:
                for reading in ([1, 1, 1], [1, 3, 1]):
                    with self.assertRaises(BadWidth):
                        asked(Taps([5, 5, 5]), reading, width)


class UnitsTest(unittest.TestCase):
    """Point [5], the least and the greatest unit."""

    def test_one_time_alone(self):
        self.assertEqual(units(Taps([300]), [3], (0, 1)), ((100, 1), (100, 1)))
        self.assertEqual(units(Taps([7]), [3], (0, 1)), ((7, 3), (7, 3)))
        # 300 / (3 + 1/2) and 300 / (3 - 1/2).
        self.assertEqual(units(Taps([300]), [3], (1, 2)), ((600, 7), (120, 1)))
        # 10 / (1 + 2/3) and 10 / (1 - 2/3).
        self.assertEqual(units(Taps([10]), [1], (2, 3)), ((6, 1), (30, 1)))

    def test_all_times_have_a_say(self):
        # By 1/4: 100 is from 80 to 400/3, 110 from 88 to 440/3, 330 from 1320/13 to 120.
        self.assertEqual(units(Taps([100, 110, 330]), [1, 1, 3], (1, 4)), ((1320, 13), (120, 1)))
        # By 0 each time is met by one unit alone, 100.
        self.assertEqual(units(Taps([100, 700, 100]), [1, 7, 1], (0, 1)), ((100, 1), (100, 1)))

    def test_a_single_unit(self):
        # 1 and 2, both meant as one unit, ask 1/3: 2 / (1 + 1/3) = 1 / (1 - 1/3).
        self.assertEqual(units(Taps([1, 2, 1]), [1, 1, 1], (1, 3)), ((3, 2), (3, 2)))

    def test_none(self):
        self.assertIsNone(units(Taps([1, 2, 1]), [1, 1, 1], (33, 100)))
        self.assertIsNone(units(Taps([1, 2, 1]), [1, 1, 1], (0, 1)))
        self.assertIsNone(units(Taps([5, 5, 5]), [1, 3, 1], (998, 999)))

    def test_more_than_one_behind_a_single_one(self):
        # 2 / (1 + 1/2) and 1 / (1 - 1/2).
        self.assertEqual(units(Taps([1, 2, 1]), [1, 1, 1], (1, 2)), ((4, 3), (2, 1)))


class LeastWidthTest(unittest.TestCase):
    """Point [6], the least width and who asks it."""

    def test_nought(self):
        self.assertEqual(least_width(Taps([100, 700, 300]), [1, 7, 3]), ((0, 1), (0, 0)))
        self.assertEqual(least_width(Taps([5, 5, 5]), [3, 3, 3]), ((0, 1), (0, 0)))
        self.assertEqual(least_width(Taps([1, 3, 1, 1, 3]), [1, 3, 1, 1, 3]), ((0, 1), (0, 0)))

    def test_one_time_alone(self):
        for time in (1, 7, 9999):
            for number in (1, 3):
                self.assertEqual(least_width(Taps([time]), [number]), ((0, 1), (0, 0)))

    def test_worked(self):
        # 2 asks 1/3 with 1, both meant as one unit.
        self.assertEqual(least_width(Taps([2, 1, 2]), [1, 1, 1]), ((1, 3), (0, 1)))
        # 310 asks (310 * 1 - 90 * 3) / 400 with 90, in lowest terms 1/10.
        self.assertEqual(least_width(Taps([100, 90, 310]), [1, 1, 3]), ((1, 10), (2, 1)))

    def test_first_of_several_pairs(self):
        self.assertEqual(least_width(Taps([1, 2, 1]), [1, 1, 1]), ((1, 3), (1, 0)))
        self.assertEqual(least_width(Taps([2, 1, 2, 1, 2]), [1, 1, 1, 1, 1]), ((1, 3), (0, 1)))
        self.assertEqual(least_width(Taps([1, 2, 2, 1, 1]), [1, 1, 1, 1, 1]), ((1, 3), (1, 0)))
        # 2/6 and 4/12 are one width: (4 - 2) / (4 + 2) and (10 * 1 - 2 * 3) / (10 + 2).
        self.assertEqual(least_width(Taps([4, 2, 10]), [1, 1, 3]), ((1, 3), (0, 1)))
        self.assertEqual(least_width(Taps([10, 2, 4]), [3, 1, 1]), ((1, 3), (0, 1)))
        self.assertEqual(least_width(Taps([2, 10, 4]), [1, 3, 1]), ((1, 3), (1, 0)))

    def test_one_or_more(self):
        self.assertEqual(least_width(Taps([5, 5, 5]), [1, 3, 1]), ((1, 1), (0, 1)))
        self.assertEqual(least_width(Taps([5, 5, 5]), [1, 7, 1]), ((3, 1), (0, 1)))
        # (9999 * 3 - 1 * 1) / 10000, and so does the last one.
        self.assertEqual(least_width(Taps([9999, 1, 9999]), [1, 3, 1]), ((7499, 2500), (0, 1)))
        # (9999 * 7 - 1 * 1) / 10000.
        self.assertEqual(least_width(Taps([1, 1, 9999]), [1, 7, 1]), ((8749, 1250), (2, 1)))

    def test_the_first_ones_number_goes_with_the_other_ones_time(self):
        # (700 * 3 - 250 * 7) / 950 = 7/19.
        self.assertEqual(least_width(Taps([250, 700, 250]), [3, 7, 3]), ((7, 19), (1, 0)))


class AllowedTest(unittest.TestCase):
    """Point [6], what a width allows."""

    def test_at_the_least_width_and_around_it(self):
        taps, reading = Taps([2, 1, 2]), [1, 1, 1]
        self.assertIs(is_allowed(taps, reading, (1, 3)), True)
        self.assertIs(is_allowed(taps, reading, (333333333, 10 ** 9)), False)
        self.assertIs(is_allowed(taps, reading, (333333334, 10 ** 9 + 1)), True)
        self.assertIs(is_allowed(taps, reading, (0, 1)), False)
        self.assertIs(is_allowed(taps, reading, (1, 2)), True)

    def test_nought(self):
        self.assertIs(is_allowed(Taps([100, 700, 300]), [1, 7, 3], (0, 1)), True)
        self.assertIs(is_allowed(Taps([100, 700, 301]), [1, 7, 3], (0, 1)), False)

    def test_least_width_of_one(self):
        self.assertIs(is_allowed(Taps([5, 5, 5]), [1, 3, 1], (998, 999)), False)


class BarringTest(unittest.TestCase):
    """Point [6], the first pair that asks more than a width."""

    def test_not_always_the_greatest(self):
        taps, reading = Taps([5, 5, 5, 5, 5]), [1, 3, 1, 7, 1]
        self.assertEqual(least_width(taps, reading), ((3, 1), (0, 3)))
        self.assertEqual(barring(taps, reading, (1, 2)), (0, 1))
        # 30 with 20 asks 1/5, with 10 it asks 1/2.
        taps, reading = Taps([30, 20, 10]), [1, 1, 1]
        self.assertEqual(least_width(taps, reading), ((1, 2), (0, 2)))
        self.assertEqual(barring(taps, reading, (0, 1)), (0, 1))
        self.assertEqual(barring(taps, reading, (19, 100)), (0, 1))
        self.assertEqual(barring(taps, reading, (1, 5)), (0, 2))
        self.assertEqual(barring(taps, reading, (49, 100)), (0, 2))

    def test_none(self):
        self.assertIsNone(barring(Taps([30, 20, 10]), [1, 1, 1], (1, 2)))
        self.assertIsNone(barring(Taps([30]), [3], (0, 1)))
        self.assertIsNone(barring(Taps([100, 700, 300]), [1, 7, 3], (0, 1)))

    def test_by_the_first_number_then_the_other(self):
        # (1, 0) and (1, 2) ask 1/3, (3, 0) asks 3/5: the lesser first number is told.
        self.assertEqual(barring(Taps([1, 2, 1, 4, 1]), [1, 1, 1, 1, 1], (1, 4)), (1, 0))
        self.assertEqual(barring(Taps([1, 2, 1, 4, 1]), [1, 1, 1, 1, 1], (1, 3)), (3, 0))


def unit_bounds(times, reading, width):
    """The words of point [5], with fractions; the greatest is None where nothing bounds the unit."""
    least = max(Fraction(time) / (number + width) for time, number in zip(times, reading))
    above = [Fraction(time) / (number - width) for time, number in zip(times, reading) if number > width]
    return least, min(above, default=None)


def allows(times, reading, width):
    least, greatest = unit_bounds(times, reading, width)
    return greatest is None or least <= greatest


class DrawnTest(unittest.TestCase):
    """Points [5] and [6] by their words, on many drawn taps, readings and widths."""

    def test_least_width(self):
        chance = random.Random(1)
        for _ in range(600):
            times, reading = drawn(chance)
            handed = list(reading)
            width, pair = least_width(Taps(times), handed)
            asked = asked_widths(times, reading)
            greatest = max(asked.values())
            self.assertEqual(handed, reading)
            self.assertEqual(width, pair_of(greatest))
            first = next(one for one, ratio in asked.items() if ratio == greatest)
            self.assertEqual(pair, first if greatest else (0, 0))
            self.assertTrue(allows(times, reading, greatest))
            if greatest:
                self.assertFalse(allows(times, reading, greatest - Fraction(1, 10 ** 9)))

    def test_by_widths(self):
        chance = random.Random(2)
        seen = {True: 0, False: 0}
        for _ in range(600):
            times, reading = drawn(chance)
            asked = asked_widths(times, reading)
            for width in drawn_widths(chance, max(asked.values())):
                allowed = self.agree(times, reading, width, asked)
                seen[allowed] += 1
        self.assertGreater(seen[True], 300)
        self.assertGreater(seen[False], 300)

    def agree(self, times, reading, width, asked):
        taps, handed, told = Taps(times), list(reading), pair_of(width)
        allowed = allows(times, reading, width)
        self.assertIs(is_allowed(taps, handed, told), allowed)
        first = next((pair for pair, ratio in asked.items() if ratio > width), None)
        self.assertEqual(barring(taps, handed, told), first)
        self.assertEqual(first is None, allowed)
        bounds = units(taps, handed, told)
        if allowed:
            self.assertEqual(bounds, tuple(pair_of(unit) for unit in unit_bounds(times, reading, width)))
        else:
            self.assertIsNone(bounds)
        self.assertEqual(handed, reading)
        self.assertEqual(taps.times(), times)
        return allowed

    def test_lowest_terms(self):
        chance = random.Random(3)
        for _ in range(200):
            times, reading = drawn(chance)
            told = [least_width(Taps(times), reading)[0]]
            told += units(Taps(times), reading, (chance.choice((1, 2, 4)), 5)) or ()
            for fraction in told:
                self.assertIs(type(fraction), tuple)
                top, bottom = fraction
                self.assertIs(type(top), int)
                self.assertIs(type(bottom), int)
                self.assertGreaterEqual(bottom, 1)
                self.assertEqual(gcd(top, bottom), 1)


class InterfaceTest(unittest.TestCase):
    def test_names_and_arguments(self):
        listed = {"least_width": ["taps", "reading"]}
        for name in ("is_allowed", "units", "barring"):
            listed[name] = ["taps", "reading", "width"]
        for name, arguments in listed.items():
            function = getattr(widths, name)
            self.assertEqual(list(inspect.signature(function).parameters), arguments)
            self.assertEqual(function.__module__, "keyedtime.widths")
        self.assertEqual(list(inspect.signature(Taps).parameters), ["times"])

    def test_kinds_of_what_is_told(self):
        taps = Taps([30, 20, 10])
        told = least_width(taps, [1, 1, 1])
        self.assertEqual([type(told), type(told[0]), type(told[1])], [tuple] * 3)
        self.assertIs(type(barring(taps, [1, 1, 1], (0, 1))), tuple)
        bounds = units(taps, [1, 1, 1], (1, 2))
        self.assertEqual([type(bounds), type(bounds[0]), type(bounds[1])], [tuple] * 3)


if __name__ == "__main__":
    unittest.main()
