"""Point [3], the taps, and point [1] as far as it speaks of them."""

import unittest

from keyedtime.errors import BadTaps
from keyedtime.taps import Taps


class TakenTest(unittest.TestCase):
    def test_counts(self):
        for many in range(1, 26, 2):
            times = list(range(100, 100 + many))
            self.assertEqual(Taps(times).times(), times)

    def test_told_as_handed_in(self):
        for times in ([5], [300, 100, 300], [9, 9, 1], [3, 2, 1]):
            self.assertEqual(Taps(list(times)).times(), times)

    def test_least_and_greatest_time(self):
        for times in ([1], [9999], [1, 9999, 1], [9999, 1, 9999]):
            self.assertEqual(Taps(times).times(), times)

    def test_is_a_list(self):
        self.assertIs(type(Taps([1, 2, 3]).times()), list)


class RefusedTest(unittest.TestCase):
    def refused(self, times, at, why):
        handed = list(times)
        with self.assertRaises(BadTaps) as caught:
            Taps(handed)
        self.assertEqual((caught.exception.at, caught.exception.why), (at, why))
        self.assertEqual(handed, times)

    def test_counts(self):
        for many in (0, 2, 4, 24, 26, 27, 29, 100):
            self.refused([50] * many, 0, "many")

    def test_count_ahead_of_a_bad_time(self):
        for many in (2, 24, 26, 27):
            for at in (0, 1, many - 1):
                times = [50] * many
                times[at] = 0
                self.refused(times, 0, "many")

    def test_bad_time(self):
        for bad in (0, -1, -9999, 10000, 10001, 10 ** 9, -(10 ** 5000), 10 ** 5000):
            self.refused([bad], 0, "time")
            for at in range(5):
                times = [50] * 5
                times[at] = bad
                self.refused(times, at, "time")

    def test_last_of_25(self):
        self.refused([50] * 24 + [0], 24, "time")

    def test_first_bad_time_is_told(self):
        self.refused([50, 0, 10000], 1, "time")
        self.refused([50, 10000, 0], 1, "time")
        self.refused([0, 0, 0], 0, "time")
        self.refused([1, 9999, 1, -1, 0], 3, "time")


class CopiesTest(unittest.TestCase):
    def test_list_handed_in_stays(self):
        times = [300, 100, 300]
        taps = Taps(times)
        taps.times().append(7)
        self.assertEqual(times, [300, 100, 300])

    def test_change_of_the_list_handed_in(self):
        times = [300, 100, 300]
        taps = Taps(times)
        times[0] = 1
        times.append(2)
        self.assertEqual(taps.times(), [300, 100, 300])

    def test_change_of_a_told_list(self):
        taps = Taps([300, 100, 300])
        told = taps.times()
        told[0] = 1
        told.append(2)
        self.assertEqual(taps.times(), [300, 100, 300])

    def test_new_list_each_time(self):
        taps = Taps([300, 100, 300])
        self.assertIsNot(taps.times(), taps.times())

    def test_two_taps_of_one_list(self):
        times = [300, 100, 300]
        one, other = Taps(times), Taps(times)
        one.times().clear()
        self.assertEqual(other.times(), [300, 100, 300])


if __name__ == "__main__":
    unittest.main()
