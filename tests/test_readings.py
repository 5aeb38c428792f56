"""Points [7] and [8], and points [1], [2] and [5] as far as they speak of these."""

import inspect
import random
import unittest
from fractions import Fraction
from math import gcd

from keyedtime import readings as module
from keyedtime.errors import BadWidth
from keyedtime.readings import nearest, next_width, pieces, readings
from keyedtime.taps import Taps
from keyedtime.widths import is_allowed, least_width
from tests.by_words import drawn, drawn_widths, grown, least_by_words, pair_of, tried

BELOW_ONE = Fraction(10 ** 30 - 1, 10 ** 30)


class ReadingsTest(unittest.TestCase):
    """Point [7], all readings that a width allows."""

    def test_one_time_has_two_readings_of_width_nought(self):
        for time in (1, 100, 9999):
            both = [([1], (0, 1)), ([3], (0, 1))]
            self.assertEqual(readings(Taps([time]), (0, 1)), both)
            self.assertEqual(readings(Taps([time]), (998, 999)), both)

    def test_width_nought(self):
        self.assertEqual(readings(Taps([100, 300, 100]), (0, 1)), [([1, 3, 1], (0, 1))])
        self.assertEqual(readings(Taps([100, 700, 300]), (0, 1)), [([1, 7, 3], (0, 1))])
        alike = [([1, 1, 1], (0, 1)), ([3, 3, 3], (0, 1))]
        self.assertEqual(readings(Taps([100, 100, 100]), (0, 1)), alike)

    def test_none(self):
        self.assertEqual(readings(Taps([1, 2, 1]), (0, 1)), [])
        self.assertEqual(readings(Taps([1, 2, 1]), (333, 1000)), [])
        self.assertEqual(readings(Taps([1, 9999, 1]), (998, 999)), [])

    def test_alike_widths_by_the_least_list(self):
        # 2 with 1: (2 - 1)/3; 1 with 2: (3 - 2)/3; 1 with 2: (7 - 6)/3.
        alike = [([1, 1, 1], (1, 3)), ([1, 3, 1], (1, 3)), ([3, 7, 3], (1, 3))]
        self.assertEqual(readings(Taps([1, 2, 1]), (1, 3)), alike)

    def test_by_widths_ahead_of_lists(self):
        # 190 asks 90/290 with 100 if both are one unit; 100 asks 110/290 with 190 if that is
        # three units long, and (700 - 570)/290 if that is seven and 100 itself three.
        told = readings(Taps([100, 190, 100]), (13, 29))
        self.assertEqual(told, [([1, 1, 1], (9, 29)), ([1, 3, 1], (11, 29)), ([3, 7, 3], (13, 29))])
        told = readings(Taps([100, 210, 100]), (13, 31))
        self.assertEqual(told, [([3, 7, 3], (7, 31)), ([1, 3, 1], (9, 31)), ([1, 1, 1], (11, 31))])

    def test_widths_are_compared_as_fractions(self):
        for times in ([7, 13, 7], [7, 13, 6], [10, 21, 9], [5, 9, 4]):
            told = readings(Taps(times), (998, 999))
            self.assertEqual(told, tried(times, Fraction(998, 999)))
            widths = [width for _, width in told]
            self.assertEqual(widths, sorted(widths, key=lambda width: Fraction(*width)))
            self.assertGreater(len(set(widths)), 2)
            self.assertNotEqual(widths, sorted(widths))

    def test_the_width_itself_is_allowed(self):
        taps = Taps([100, 190, 100])
        self.assertEqual(readings(taps, (9, 29)), [([1, 1, 1], (9, 29))])
        self.assertEqual(readings(taps, (9 * 10 ** 20 - 1, 29 * 10 ** 20)), [])
        self.assertEqual(len(readings(taps, (11, 29))), 2)

    def test_greatest_least_width_below_one(self):
        # (9998 * 3 - 9999 * 1) / 19997 is as near to 1 as any comes.
        taps, reading = Taps([9998, 9999, 9998]), [1, 3, 1]
        self.assertEqual(least_width(taps, reading), ((19995, 19997), (0, 1)))
        self.assertIn((reading, (19995, 19997)), readings(taps, (19995, 19997)))
        self.assertIn((reading, (19995, 19997)), readings(taps, pair_of(BELOW_ONE)))
        self.assertNotIn(reading, [told for told, _ in readings(taps, (19994, 19997))])

    def test_longest_and_shortest_times(self):
        for times in ([1, 9999, 1], [9999, 1, 9999], [1, 1, 9999], [9999, 9999, 9999], [1, 1, 1]):
            self.assertEqual(readings(Taps(times), pair_of(BELOW_ONE)), tried(times, BELOW_ONE))


class DrawnReadingsTest(unittest.TestCase):
    """Point [7] by trying all readings, on many drawn taps and widths."""

    def test_few_times(self):
        chance = random.Random(11)
        many = {0: 0, 1: 0, 2: 0}
        for _ in range(250):
            times, reading = drawn(chance, (1, 3, 3, 5, 5, 7))
            for width in drawn_widths(chance, least_by_words(times, reading)):
                told = readings(Taps(times), pair_of(width))
                self.assertEqual(told, tried(times, width))
                many[min(len(told), 2)] += 1
        for count in many.values():
            self.assertGreater(count, 100)

    def test_few_times_just_below_one(self):
        chance = random.Random(12)
        for _ in range(120):
            times, _ = drawn(chance, (1, 3, 5, 7))
            self.assertEqual(readings(Taps(times), pair_of(BELOW_ONE)), tried(times, BELOW_ONE))

    def test_twenty_five_times(self):
        chance = random.Random(13)
        for _ in range(60):
            times, reading = drawn(chance, (9, 17, 25, 25))
            for width in drawn_widths(chance, least_by_words(times, reading))[:2] + [BELOW_ONE]:
                taps = Taps(times)
                told = readings(taps, pair_of(width))
                self.assertEqual(told, grown(times, width))
                for reading, least in told:
                    self.assertIs(is_allowed(taps, reading, pair_of(width)), True)
                    self.assertEqual(least_width(taps, reading)[0], least)

    def test_twenty_five_exact_times(self):
        reading = [1, 1, 3, 7, 1] * 5
        reading = [3 if at % 2 == 0 and number == 7 else number for at, number in enumerate(reading)]
        times = [number * 1111 for number in reading]
        self.assertEqual(readings(Taps(times), (0, 1)), [(reading, (0, 1))])
        self.assertEqual(nearest(Taps(times)), (reading, (0, 1)))


class NearestTest(unittest.TestCase):
    """Point [7], the first of all readings and the width of the second one."""

    def test_worked(self):
        self.assertEqual(nearest(Taps([100, 190, 100])), ([1, 1, 1], (9, 29)))
        self.assertEqual(next_width(Taps([100, 190, 100])), (11, 29))
        self.assertEqual(nearest(Taps([100, 210, 100])), ([3, 7, 3], (7, 31)))
        self.assertEqual(next_width(Taps([100, 210, 100])), (9, 31))

    def test_one_time(self):
        self.assertEqual(nearest(Taps([42])), ([1], (0, 1)))
        self.assertEqual(next_width(Taps([42])), (0, 1))

    def test_alike_widths(self):
        self.assertEqual(nearest(Taps([1, 2, 1])), ([1, 1, 1], (1, 3)))
        self.assertEqual(next_width(Taps([1, 2, 1])), (1, 3))
        self.assertEqual(nearest(Taps([7] * 25)), ([1] * 25, (0, 1)))
        self.assertEqual(next_width(Taps([7] * 25)), (0, 1))

    def test_widths_near_one(self):
        # 9999 with 1 asks 9992/10000 if it is seven units long, and 9996/10000 if it is three.
        self.assertEqual(nearest(Taps([1, 9999, 1])), ([1, 7, 1], (1249, 1250)))
        self.assertEqual(next_width(Taps([1, 9999, 1])), (2499, 2500))
        # Down there is no seven.
        self.assertEqual(nearest(Taps([9999, 1, 1])), ([3, 1, 1], (2499, 2500)))
        self.assertEqual(next_width(Taps([9999, 1, 1])), (4999, 5000))

    def test_the_second_one_may_be_far(self):
        # 300 with 100 asks 200/400 if all are one unit.
        self.assertEqual(nearest(Taps([100, 100, 300])), ([1, 1, 3], (0, 1)))
        self.assertEqual(next_width(Taps([100, 100, 300])), (1, 2))

    def test_by_trying_all(self):
        chance = random.Random(14)
        for _ in range(200):
            times, _ = drawn(chance, (1, 3, 3, 5, 5, 7))
            taps = Taps(times)
            every = tried(times, BELOW_ONE)
            self.assertEqual(nearest(taps), every[0])
            self.assertEqual(next_width(taps), every[1][1] if len(every) > 1 else None)

    def test_nine_times_by_trying_all(self):
        chance = random.Random(15)
        for _ in range(3):
            times, _ = drawn(chance, (9,))
            every = tried(times, BELOW_ONE)
            self.assertEqual(nearest(Taps(times)), every[0])
            self.assertEqual(readings(Taps(times), pair_of(BELOW_ONE)), every)

    def test_many_times(self):
        chance = random.Random(16)
        for _ in range(60):
            times, _ = drawn(chance, (25,))
            taps = Taps(times)
            every = grown(times, BELOW_ONE)
            self.assertEqual(nearest(taps), every[0])
            self.assertLess(Fraction(*nearest(taps)[1]), 1)
            self.assertEqual(next_width(taps), every[1][1] if len(every) > 1 else None)


def all_cuts(begin, end):
    """All ways to cut the numbers from begin to the one ahead of end into pieces."""
    if begin == end:
        return [[]]
    return [
        [(begin, middle)] + rest
        for middle in range(begin + 1, end + 1)
        for rest in all_cuts(middle, end)
    ]


def pieces_by_trying(times, width):
    """The words of point [8], by trying all cuts and all readings of each piece."""
    many = len(times)
    read = {}
    for begin in range(many):
        for end in range(begin + 1, many + 1):
            found = tried(times[begin:end], width, begin)
            if found:
                read[(begin, end)] = found[0][0]
    good = [cut for cut in all_cuts(0, many) if all(piece in read for piece in cut)]
    fewest = min(len(cut) for cut in good)
    ends = max([end for _, end in cut] for cut in good if len(cut) == fewest)
    cut = list(zip([0] + ends[:-1], ends))
    return [(begin, end, read[(begin, end)]) for begin, end in cut]


class PiecesTest(unittest.TestCase):
    """Point [8]."""

    def test_one_piece(self):
        self.assertEqual(pieces(Taps([100, 300, 100]), (0, 1)), [(0, 3, [1, 3, 1])])
        self.assertEqual(pieces(Taps([5]), (0, 1)), [(0, 1, [1])])
        self.assertEqual(pieces(Taps([7] * 25), (0, 1)), [(0, 25, [1] * 25)])

    def test_as_many_pieces_as_times(self):
        single = [(0, 1, [1]), (1, 2, [1]), (2, 3, [1])]
        self.assertEqual(pieces(Taps([10, 11, 13]), (0, 1)), single)
        told = pieces(Taps([10, 11] * 12 + [10]), (0, 1))
        self.assertEqual(told, [(at, at + 1, [1]) for at in range(25)])

    def test_changed_unit(self):
        # Twice as slow from number 3 on, which is up.
        self.assertEqual(pieces(Taps([10, 30, 10, 20, 60]), (0, 1)), [(0, 3, [1, 3, 1]), (3, 5, [1, 3])])

    def test_seven_may_begin_a_piece(self):
        # Number 1 is up, so its piece may begin with a seven.
        self.assertEqual(pieces(Taps([11, 700, 300]), (0, 1)), [(0, 1, [1]), (1, 3, [7, 3])])

    def test_no_seven_where_the_key_is_down(self):
        # Number 2 is down: 70 and 30 are no seven and three there.
        told = pieces(Taps([11, 13, 70, 30, 30]), (0, 1))
        self.assertEqual(told, [(0, 1, [1]), (1, 2, [1]), (2, 3, [1]), (3, 5, [1, 1])])

    def test_first_as_long_as_can_be(self):
        # 15 asks 5/25 with 10, and is asked 7/37 by 22; 22 and 10 are one piece in no way.
        told = pieces(Taps([10, 10, 15, 22, 22]), (1, 5))
        self.assertEqual(told, pieces_by_trying([10, 10, 15, 22, 22], Fraction(1, 5)))
        self.assertEqual([(begin, end) for begin, end, _ in told], [(0, 3), (3, 5)])

    def test_the_width_itself_is_allowed(self):
        taps = Taps([1, 2, 1])
        self.assertEqual(pieces(taps, (1, 3)), [(0, 3, [1, 1, 1])])
        self.assertEqual([piece[:2] for piece in pieces(taps, (333, 1000))], [(0, 1), (1, 2), (2, 3)])

    def test_read_as_nearest_tells(self):
        taps = Taps([100, 210, 100])
        self.assertEqual(pieces(taps, (1, 2)), [(0, 3, nearest(taps)[0])])
        self.assertEqual(pieces(taps, (1, 2)), [(0, 3, [3, 7, 3])])

    def test_just_below_one(self):
        told = pieces(Taps([9999, 1] * 12 + [9999]), pair_of(BELOW_ONE))
        self.assertEqual([piece[:2] for piece in told], [(0, 25)])

    def test_by_trying_all(self):
        chance = random.Random(17)
        many = {}
        for _ in range(150):
            times, reading = drawn(chance, (1, 3, 5, 5, 7))
            least = least_by_words(times, reading)
            for width in drawn_widths(chance, least / 2)[:1] + drawn_widths(chance, least)[-2:]:
                told = pieces(Taps(times), pair_of(width))
                self.assertEqual(told, pieces_by_trying(times, width))
                many[len(told)] = many.get(len(told), 0) + 1
        for count in (1, 2, 3, 4):
            self.assertGreater(many[count], 5)

    def test_many_times_hold_together(self):
        chance = random.Random(18)
        for _ in range(60):
            times, _ = drawn(chance, (25,))
            width = (chance.randrange(10), 10)
            width = (width[0] // gcd(*width), 10 // gcd(*width))
            told = pieces(Taps(times), width)
            self.assertEqual([begin for begin, _, _ in told], [0] + [end for _, end, _ in told[:-1]])
            self.assertEqual(told[-1][1], 25)
            for begin, end, reading in told:
                self.assertEqual(len(reading), end - begin)
                self.assertLessEqual(least_by_words(times[begin:end], reading), Fraction(*width))


class RefusedTest(unittest.TestCase):
    """Point [5], for what takes a width."""

    def test_bad_widths(self):
        bad = [(1, 1), (3, 2), (-1, 2), (1, 0), (1, -2), (0, 2), (2, 4), (0, 0), (0, -1), (-1, -2)]
        for width in bad:
            for times in ([5], [5, 5, 5], [1, 2, 1], [7] * 25):
                for asked in (readings, pieces):
                    with self.assertRaises(BadWidth):
                        asked(Taps(times), width)

    def test_good_widths(self):
        for width in ((0, 1), (1, 2), (998, 999), (1, 10 ** 30), pair_of(BELOW_ONE)):
            self.assertEqual(readings(Taps([5]), width)[0], ([1], (0, 1)))
            self.assertEqual(pieces(Taps([5]), width), [(0, 1, [1])])


class CopiesTest(unittest.TestCase):
    """Point [1]: what is told may be changed, and is told the same again."""

    def test_readings(self):
        taps = Taps([1, 2, 1])
        first = readings(taps, (1, 3))
        first[0][0].append(7)
        self.assertEqual([reading for reading, _ in first[1:]], [[1, 3, 1], [3, 7, 3]])
        first.clear()
        alike = [([1, 1, 1], (1, 3)), ([1, 3, 1], (1, 3)), ([3, 7, 3], (1, 3))]
        self.assertEqual(readings(taps, (1, 3)), alike)
        self.assertEqual(taps.times(), [1, 2, 1])

    def test_nearest(self):
        taps = Taps([1, 2, 1])
        nearest(taps)[0].clear()
        self.assertEqual(nearest(taps), ([1, 1, 1], (1, 3)))
        self.assertEqual(next_width(taps), (1, 3))
        self.assertEqual(next_width(taps), (1, 3))

    def test_pieces(self):
        taps = Taps([10, 11, 13])
        told = pieces(taps, (0, 1))
        told[0][2].append(3)
        self.assertEqual(told[1:], [(1, 2, [1]), (2, 3, [1])])
        told.pop()
        self.assertEqual(pieces(taps, (0, 1)), [(0, 1, [1]), (1, 2, [1]), (2, 3, [1])])
        self.assertEqual(taps.times(), [10, 11, 13])


class InterfaceTest(unittest.TestCase):
    def test_names_and_arguments(self):
        listed = {"readings": ["taps", "width"], "nearest": ["taps"]}
        listed.update({"next_width": ["taps"], "pieces": ["taps", "width"]})
        for name, arguments in listed.items():
            function = getattr(module, name)
            self.assertEqual(list(inspect.signature(function).parameters), arguments)
            self.assertEqual(function.__module__, "keyedtime.readings")

    def test_kinds_of_what_is_told(self):
        taps = Taps([100, 190, 100])
        told = readings(taps, (1, 2))
        self.assertIs(type(told), list)
        for one in told + [nearest(taps)]:
            self.assertEqual([type(one), type(one[0]), type(one[1])], [tuple, list, tuple])
            self.assertEqual([type(number) for number in one[0] + list(one[1])], [int] * 5)
        self.assertIs(type(next_width(taps)), tuple)
        for one in pieces(taps, (0, 1)):
            self.assertEqual([type(part) for part in one], [int, int, list])
            self.assertIs(type(one), tuple)

    def test_lowest_terms(self):
        chance = random.Random(19)
        for _ in range(60):
            times, _ = drawn(chance)
            for _, (top, bottom) in readings(Taps(times), (998, 999)):
                self.assertGreaterEqual(bottom, 1)
                self.assertEqual(gcd(top, bottom), 1)


if __name__ == "__main__":
    unittest.main()
