"""Point [12], and point [1] as far as it speaks of it."""

import inspect
import random
import unittest

from keyedtime import notes
from keyedtime.errors import BadTable, BadTaps, BadText
from keyedtime.notes import read, written
from keyedtime.tables import Table
from keyedtime.taps import Taps
from tests.by_words import drawn
from tests.tables import MORSE, STRANGE, TWENTY

SHEET = "taps 100 90 310\nletter e .\nletter a .-\nword ea\nword a"


class WrittenTest(unittest.TestCase):
    def test_worked(self):
        told = written(Taps([100, 90, 310]), Table([("e", "."), ("a", ".-")]), ["ea", "a"])
        self.assertEqual(told, SHEET)

    def test_without_rows(self):
        self.assertEqual(written(Taps([1]), Table([]), []), "taps 1")
        self.assertEqual(written(Taps([1, 9999, 1]), Table([]), ["e"]), "taps 1 9999 1\nword e")
        self.assertEqual(written(Taps([10]), Table([("z", "------")]), []), "taps 10\nletter z ------")

    def test_twenty_five_times_and_twenty_rows(self):
        rows = written(Taps(list(range(1, 26))), Table(TWENTY), ["e", "t"]).split("\n")
        self.assertEqual(rows[0], "taps " + " ".join(str(time) for time in range(1, 26)))
        self.assertEqual(len(rows), 23)
        self.assertEqual(rows[20], "letter t -")
        self.assertEqual(rows[21:], ["word e", "word t"])

    def test_bad_books(self):
        cases = [([""], 0, "word"), (["e", "E"], 1, "word"), (["e", "a b"], 1, "word"), (["e", "e"], 1, "twice")]
        cases += [(["e", "t\n"], 1, "word"), (["e", "t", "t", ""], 2, "twice"), (["e", "", "e"], 1, "word")]
        for book, at, why in cases:
            handed = list(book)
            with self.assertRaises(BadTable) as caught:
                written(Taps([5]), Table(MORSE), handed)
            self.assertEqual((caught.exception.at, caught.exception.why), (at, why))
            self.assertEqual(handed, book)


class ReadTest(unittest.TestCase):
    def same(self, text, times, rows, book):
        told = read(text)
        self.assertIs(type(told), tuple)
        taps, table, words = told
        self.assertIsInstance(taps, Taps)
        self.assertIsInstance(table, Table)
        self.assertIs(type(words), list)
        self.assertEqual((taps.times(), table.letters(), words), (times, rows, book))

    def test_worked(self):
        self.same(SHEET, [100, 90, 310], [("e", "."), ("a", ".-")], ["ea", "a"])

    def test_without_rows(self):
        self.same("taps 1", [1], [], [])
        self.same("taps 1 9999 1\nword e", [1, 9999, 1], [], ["e"])
        self.same("taps 10\nletter z ------", [10], [("z", "------")], [])

    def test_words_that_name_rows(self):
        self.same("taps 5\nword taps\nword letter\nword word", [5], [], ["taps", "letter", "word"])

    def test_more_than_twenty_rows(self):
        text = written(Taps([5]), Table(MORSE), [])
        self.same(text, [5], MORSE, [])

    def test_what_is_written(self):
        chance = random.Random(41)
        for _ in range(200):
            times, _ = drawn(chance)
            rows = chance.sample(chance.choice((TWENTY, STRANGE)), chance.randint(0, 5))
            book = chance.sample(["e", "taps", "word", "letter", "zebra", "ee"], chance.randint(0, 6))
            text = written(Taps(times), Table(rows), book)
            self.same(text, times, rows, book)
            self.assertEqual(written(*read(text)), text)

    def test_twenty_five_times(self):
        times = list(range(9975, 10000))
        self.same(written(Taps(times), Table([]), []), times, [], [])


class BadTextTest(unittest.TestCase):
    def refused(self, text, row):
        with self.assertRaises(BadText) as caught:
            read(text)
        self.assertEqual(caught.exception.row, row)

    def test_first_word_of_row_0(self):
        for first in ("", "tap 5", "Taps 5", "taps5", "5", "letter e .", "word e", "tapss 5", "taps\t5", "sheet"):
            self.refused(first, 0)
            self.refused(first + "\nletter e .", 0)
        self.refused("\ntaps 5", 0)

    def test_count_of_words_of_row_0(self):
        for first in ("taps", "taps ", "taps  5", " taps 5", "taps 5 ", "taps 5  6 7", "taps 5 6 7 "):
            self.refused(first, 0)
            self.refused(first + "\nword e", 0)

    def test_figures(self):
        bad = ["0", "05", "00", "0005", "10000", "99999", "-5", "+5", "5.0", "1_0", "x", "5x", "5,", "1e3"]
        bad += ["\u0665", "\u00b2", "\uff15", "5\r", "5\t", "\t5", "five", "5\u00a06"]
        for word in bad:
            self.refused("taps " + word, 0)
            self.refused("taps 5 6 " + word, 0)
            self.refused("taps 5 " + word + " 7\nword e", 0)

    def test_good_figures(self):
        for word in ("1", "9", "10", "99", "100", "1000", "9999"):
            self.assertEqual(read("taps " + word)[0].times(), [int(word)])

    def test_first_word_of_other_rows(self):
        for row in ("taps 5", "", "Letter e .", "WORD e", "words e", "letters e .", "e .", "book e", "word\te", "taps"):
            self.refused("taps 5\n" + row, 1)
            self.refused("taps 5\nletter e .\n" + row + "\nword e", 2)
            self.refused("taps 5\nletter e .\nword e\n" + row, 3)

    def test_count_of_words_of_other_rows(self):
        bad = ["letter", "letter e", "letter e . -", "letter e  .", "letter  e .", "letter e . ", "letter  .", "letter e "]
        bad += [" letter e .", "word", "word ", "word  e", "word e ", " word e", "word e t", "letter ", "word  "]
        for row in bad:
            self.refused("taps 5\n" + row, 1)
            self.refused("taps 5\nletter t -\n" + row, 2)

    def test_row_feeds(self):
        self.refused("taps 5\n", 1)
        self.refused("taps 5\n\nword e", 1)
        self.refused(SHEET + "\n", 5)
        self.refused("taps 5\r\nword e", 0)
        # Such are no line feeds: they stand within a word.
        self.refused("taps 5\rword e", 0)
        self.refused("taps 5\nword e\rword t", 1)
        self.refused("taps 5\nletter e .\x0bletter t -", 1)

    def test_behind_a_row_of_a_later_sort(self):
        self.refused("taps 5\nword e\nletter e .", 2)
        self.refused("taps 5\nletter e .\nword e\nword t\nletter t -\nletter i ..", 4)
        self.refused("taps 5\nword e\ntaps 5", 2)
        self.refused("taps 5\ntaps 5", 1)

    def test_first_bad_row(self):
        self.refused("taps 0\nword", 0)
        self.refused("taps 5\nword\nletter", 1)
        self.refused("taps 5\nletter e .\nword e\nletter t -\nword", 3)
        self.refused("taps 5\nword e\nword\nletter e .", 2)


class OrderTest(unittest.TestCase):
    """Which of several refusals stands ahead."""

    def refused(self, text, kind, at, why):
        with self.assertRaises(kind) as caught:
            read(text)
        self.assertEqual((caught.exception.at, caught.exception.why), (at, why))

    def test_counts_of_times(self):
        for many in (2, 4, 24, 26, 27, 100):
            self.refused("taps" + " 5" * many, BadTaps, 0, "many")

    def test_tables(self):
        self.refused("taps 5\nletter E .", BadTable, 0, "letter")
        self.refused("taps 5\nletter ee .", BadTable, 0, "letter")
        self.refused("taps 5\nletter e .\nletter t x", BadTable, 1, "marks")
        self.refused("taps 5\nletter e .\nletter t .......", BadTable, 1, "marks")
        self.refused("taps 5\nletter e .\nletter t -\nletter i -", BadTable, 2, "twice")
        self.refused("taps 5\nletter e .\nletter e -", BadTable, 1, "twice")
        self.refused("taps 5\nletter \u00e9 .", BadTable, 0, "letter")
        self.refused("taps 5\nletter e\t .", BadTable, 0, "letter")
        self.refused("taps 5\nletter e .\r", BadTable, 0, "marks")

    def test_books(self):
        self.refused("taps 5\nword E", BadTable, 0, "word")
        self.refused("taps 5\nletter e .\nword e\nword 5", BadTable, 1, "word")
        self.refused("taps 5\nletter e .\nword e\nword t\nword e", BadTable, 2, "twice")
        self.refused("taps 5\nword e\r\nword t", BadTable, 0, "word")

    def test_text_ahead_of_all(self):
        for text in ("taps 5 5\nletter E .\nword E\n", "taps 5 5\nletter E .\nword E\nletter t -"):
            with self.assertRaises(BadText) as caught:
                read(text)
            self.assertEqual(caught.exception.row, 3)
        with self.assertRaises(BadText) as caught:
            read("taps 5 0")
        self.assertEqual(caught.exception.row, 0)

    def test_taps_ahead_of_tables(self):
        self.refused("taps 5 5\nletter E .\nword E", BadTaps, 0, "many")
        self.refused("taps 5 5\nword E", BadTaps, 0, "many")

    def test_table_ahead_of_book(self):
        self.refused("taps 5\nletter e .\nletter t .\nword E", BadTable, 1, "twice")


class CopiesTest(unittest.TestCase):
    """Point [1]."""

    def test_what_is_handed_in_stays(self):
        taps, table, book = Taps([100, 90, 310]), Table([("e", "."), ("a", ".-")]), ["ea", "a"]
        for _ in range(2):
            self.assertEqual(written(taps, table, book), SHEET)
            self.assertEqual(book, ["ea", "a"])
            self.assertEqual(table.letters(), [("e", "."), ("a", ".-")])
            self.assertEqual(taps.times(), [100, 90, 310])

    def test_what_is_told_may_be_changed(self):
        taps, table, book = read(SHEET)
        book.clear()
        table.letters().clear()
        taps.times().clear()
        self.assertEqual(table.letters(), [("e", "."), ("a", ".-")])
        self.assertEqual(written(*read(SHEET)), SHEET)


class InterfaceTest(unittest.TestCase):
    def test_names_and_arguments(self):
        for name, arguments in {"written": ["taps", "table", "book"], "read": ["text"]}.items():
            function = getattr(notes, name)
            self.assertEqual(list(inspect.signature(function).parameters), arguments)
            self.assertEqual(function.__module__, "keyedtime.notes")


if __name__ == "__main__":
    unittest.main()
