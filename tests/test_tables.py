"""Points [9] and [10], and points [1], [3] and [4] as far as they speak of these."""

import inspect
import random
import unittest

from keyedtime import tables
from keyedtime.errors import BadReading, BadTable, BadWords
from keyedtime.readings import nearest
from keyedtime.tables import Table, reading_of, spelled, tapped
from keyedtime.taps import Taps
from tests.by_words import drawn
from tests.tables import MORSE, STRANGE, TWENTY


class TableTest(unittest.TestCase):
    """Point [9], what a table is."""

    def test_told_as_handed_in(self):
        for rows in ([], [("e", ".")], [("z", "-"), ("a", ".")], STRANGE, TWENTY):
            self.assertEqual(Table(list(rows)).letters(), rows)
            self.assertIs(type(Table(list(rows)).letters()), list)

    def test_all_letters_and_more_than_twenty_rows(self):
        self.assertEqual(len(TWENTY), 20)
        self.assertEqual(Table(TWENTY).letters(), TWENTY)
        # No refusal is named for many rows.
        self.assertEqual(Table(MORSE).letters(), MORSE)

    def test_marks_of_one_to_six_signs(self):
        for marks in (".", "-", "..", "-.-", "....", "-----", "......", "------", ".-.-.-"):
            self.assertEqual(Table([("q", marks)]).letters(), [("q", marks)])

    def test_marks_may_begin_alike(self):
        rows = [("e", "."), ("i", ".."), ("s", "..."), ("a", ".-")]
        self.assertEqual(Table(rows).letters(), rows)


class BadTableTest(unittest.TestCase):
    """Point [9], what is refused."""

    def refused(self, rows, at, why):
        handed = list(rows)
        with self.assertRaises(BadTable) as caught:
            Table(handed)
        self.assertEqual((caught.exception.at, caught.exception.why), (at, why))
        self.assertEqual(handed, rows)

    def test_letter(self):
        for bad in ("", "A", "Z", "ab", "ee", "1", ".", "-", " ", "?", "`", "{", "\u00e9", "\u0430", "e ", "\n"):
            self.refused([(bad, ".")], 0, "letter")
            self.refused([("e", "."), (bad, "-"), ("t", "--")], 1, "letter")

    def test_marks(self):
        for bad in ("", ".......", "-------", "a", ". ", " .", ".-x", "..a..", "_", "\u2013", "\u00b7", ".\n", "0"):
            self.refused([("e", bad)], 0, "marks")
            self.refused([("a", "."), ("b", "-"), ("e", bad)], 2, "marks")

    def test_twice(self):
        self.refused([("e", "."), ("e", "-")], 1, "twice")
        self.refused([("e", "."), ("t", ".")], 1, "twice")
        self.refused([("e", "."), ("e", ".")], 1, "twice")
        self.refused([("e", "."), ("t", "-"), ("i", ".."), ("t", "--")], 3, "twice")
        self.refused([("e", "."), ("t", "-"), ("i", ".."), ("m", "..")], 3, "twice")
        self.refused(TWENTY + [("a", "------")], 20, "twice")
        self.refused(TWENTY + [("z", "-")], 20, "twice")

    def test_letter_ahead_of_marks_ahead_of_twice(self):
        self.refused([("E", "x")], 0, "letter")
        self.refused([("e", "."), ("", ".")], 1, "letter")
        self.refused([("e", "."), ("e", "")], 1, "marks")
        self.refused([("e", "."), ("e", ".......")], 1, "marks")

    def test_first_bad_one(self):
        self.refused([("e", "x"), ("T", "-")], 0, "marks")
        self.refused([("e", "."), ("e", "-"), ("T", "-")], 1, "twice")
        self.refused([("e", "."), ("T", "-"), ("e", "-")], 1, "letter")
        self.refused([("e", "."), ("t", "-"), ("i", ""), ("i", "")], 2, "marks")


class SpelledTest(unittest.TestCase):
    """Point [10], what a reading spells."""

    def spelled(self, rows, reading):
        return spelled(Table(rows), Taps([5] * len(reading)), reading)

    def test_one_mark(self):
        self.assertEqual(self.spelled(MORSE, [1]), "e")
        self.assertEqual(self.spelled(MORSE, [3]), "t")

    def test_marks_letters_and_words(self):
        self.assertEqual(self.spelled(MORSE, [1, 1, 3]), "a")
        self.assertEqual(self.spelled(MORSE, [1, 3, 3]), "et")
        self.assertEqual(self.spelled(MORSE, [1, 7, 3]), "e t")
        self.assertEqual(self.spelled(MORSE, [3, 1, 1, 3, 1, 1, 3, 7, 1]), "na e")
        self.assertEqual(self.spelled(MORSE, [1, 7, 1, 7, 1, 3, 1]), "e e ee")

    def test_no_letters_marks(self):
        self.assertEqual(self.spelled([], [1]), "?")
        self.assertEqual(self.spelled([], [1, 1, 3, 3, 1, 7, 3]), "?? ?")
        self.assertEqual(self.spelled([("e", ".")], [1, 3, 3, 7, 1]), "e? e")
        # Eight marks, in one letter, are no letter's.
        self.assertEqual(self.spelled(MORSE, [1, 1] * 7 + [1]), "?")
        self.assertEqual(self.spelled(MORSE, [3, 1] * 12 + [3]), "?")

    def test_six_marks(self):
        self.assertEqual(self.spelled(STRANGE, [3, 1] * 5 + [3]), "a")
        self.assertEqual(self.spelled(STRANGE, [1, 1] * 5 + [1]), "m")
        self.assertEqual(self.spelled(STRANGE, [3, 1] * 6 + [3]), "?")
        self.assertEqual(self.spelled(STRANGE, [1, 3, 3, 7, 3, 1, 3]), "zb c")

    def test_twenty_five_times(self):
        self.assertEqual(self.spelled(MORSE, [1, 7] * 12 + [3]), "e " * 12 + "t")
        self.assertEqual(self.spelled(MORSE, [3, 3] * 12 + [1]), "t" * 12 + "e")

    def test_bad_readings(self):
        table = Table(MORSE)
        for bad in ([], [1], [1, 1], [1, 1, 1, 1], [1] * 5, [7, 1, 1], [1, 1, 7], [1, 2, 1], [0, 1, 1], [1, -1, 1]):
            handed = list(bad)
            with self.assertRaises(BadReading):
                spelled(table, Taps([5, 5, 5]), handed)
            self.assertEqual(handed, bad)


class ReadingOfTest(unittest.TestCase):
    """Point [10], the reading that spells a text."""

    def test_worked(self):
        table = Table(MORSE)
        self.assertEqual(reading_of(table, "e"), [1])
        self.assertEqual(reading_of(table, "a"), [1, 1, 3])
        self.assertEqual(reading_of(table, "et"), [1, 3, 3])
        self.assertEqual(reading_of(table, "e t"), [1, 7, 3])
        self.assertEqual(reading_of(table, "na e"), [3, 1, 1, 3, 1, 1, 3, 7, 1])
        self.assertEqual(reading_of(Table(STRANGE), "a z"), [3, 1, 3, 1, 3, 1, 3, 1, 3, 1, 3, 7, 1])

    def test_same_word_twice(self):
        self.assertEqual(reading_of(Table(MORSE), "e e ee"), [1, 7, 1, 7, 1, 3, 1])

    def test_more_than_twenty_five_times(self):
        self.assertEqual(reading_of(Table(MORSE), "e" * 14), [1, 3] * 13 + [1])
        self.assertEqual(reading_of(Table(MORSE), "t " * 99 + "t"), [3, 7] * 99 + [3])

    def test_refused(self):
        bad = ["", " ", "  ", "e ", " e", "e  t", "e\tt", "e\nt", "E", "e?", "?", "1", ".", ".-", "\u00e9", "e-t"]
        for text in bad:
            with self.assertRaises(BadWords):
                reading_of(Table(MORSE), text)
            with self.assertRaises(BadWords):
                tapped(Table(MORSE), text, 100)

    def test_letters_that_are_not_in_the_table(self):
        table = Table([("e", "."), ("t", "-")])
        self.assertEqual(reading_of(table, "tet"), [3, 3, 1, 3, 3])
        for text in ("a", "eat", "e a", "z e"):
            with self.assertRaises(BadWords):
                reading_of(table, text)
        for text in ("", "e", " "):
            with self.assertRaises(BadWords):
                reading_of(Table([]), text)


class TappedTest(unittest.TestCase):
    """Point [10], the taps of a text."""

    def test_worked(self):
        table = Table(MORSE)
        self.assertEqual(tapped(table, "a e", 100).times(), [100, 100, 300, 700, 100])
        self.assertEqual(tapped(table, "t", 7).times(), [21])
        self.assertIsInstance(tapped(table, "t", 7), Taps)

    def test_units(self):
        table = Table(MORSE)
        self.assertEqual(tapped(table, "e t", 1).times(), [1, 7, 3])
        self.assertEqual(tapped(table, "e t", 999).times(), [999, 6993, 2997])
        for unit in (0, -1, -999, 1000, 1428, 10000, 10 ** 5000):
            for text in ("e", "e t", ""):
                with self.assertRaises(BadWords):
                    tapped(table, text, unit)

    def test_twenty_five_times(self):
        table = Table(MORSE)
        self.assertEqual(tapped(table, "e" * 13, 2).times(), [2, 6] * 12 + [2])
        times = tapped(table, "hh he", 9).times()
        self.assertEqual((len(times), times[7], times[15], times[23]), (25, 27, 63, 27))
        for text in ("e" * 14, "e " * 13 + "e", "h" * 7, "e" * 1000):
            with self.assertRaises(BadWords):
                tapped(table, text, 2)

    def test_as_spelled(self):
        chance = random.Random(21)
        for rows in (MORSE, TWENTY, STRANGE):
            table, known = Table(rows), [letter for letter, _ in rows]
            for _ in range(100):
                text = " ".join(["".join(chance.choices(known, k=chance.randint(1, 2))) for _ in range(2)])
                reading = reading_of(table, text)
                if len(reading) > 25:
                    continue
                taps = tapped(table, text, chance.randint(1, 999))
                self.assertEqual(spelled(table, taps, reading), text)
                self.assertEqual(nearest(taps), (reading, (0, 1)))

    def test_reading_of_what_is_spelled(self):
        chance = random.Random(22)
        table, without = Table(MORSE), 0
        for _ in range(300):
            times, reading = drawn(chance)
            text = spelled(table, Taps(times), reading)
            if "?" in text:
                with self.assertRaises(BadWords):
                    reading_of(table, text)
            else:
                without += 1
                self.assertEqual(reading_of(table, text), reading)
        self.assertGreater(without, 100)


class CopiesTest(unittest.TestCase):
    """Point [1]: nothing handed in is changed or kept, and what is told may be changed."""

    def test_rows(self):
        rows = [("e", "."), ("t", "-")]
        table = Table(rows)
        rows[0] = ("a", "..")
        rows.append(("i", "......"))
        self.assertEqual(table.letters(), [("e", "."), ("t", "-")])
        table.letters().clear()
        self.assertEqual(table.letters(), [("e", "."), ("t", "-")])
        self.assertEqual(reading_of(table, "et"), [1, 3, 3])

    def test_readings(self):
        table = Table(MORSE)
        reading = [1, 3, 3]
        taps = Taps([5, 15, 15])
        self.assertEqual(spelled(table, taps, reading), "et")
        self.assertEqual(spelled(table, taps, reading), "et")
        self.assertEqual(reading, [1, 3, 3])
        reading_of(table, "et").append(7)
        self.assertEqual(reading_of(table, "et"), [1, 3, 3])
        tapped(table, "et", 5).times().append(7)
        self.assertEqual(tapped(table, "et", 5).times(), [5, 15, 15])
        self.assertEqual(table.letters(), MORSE)


class InterfaceTest(unittest.TestCase):
    def test_names_and_arguments(self):
        listed = {"Table": ["rows"], "spelled": ["table", "taps", "reading"]}
        listed.update({"reading_of": ["table", "text"], "tapped": ["table", "text", "unit"]})
        for name, arguments in listed.items():
            defined = getattr(tables, name)
            self.assertEqual(list(inspect.signature(defined).parameters), arguments)
            self.assertEqual(defined.__module__, "keyedtime.tables")
        self.assertIn("letters", vars(Table))


if __name__ == "__main__":
    unittest.main()
