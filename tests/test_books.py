"""Point [11], and points [1], [2] and [5] as far as they speak of it."""

import inspect
import random
import unittest
from fractions import Fraction

from keyedtime import books
from keyedtime.books import told, worded
from keyedtime.errors import BadTable, BadWidth
from keyedtime.readings import readings
from keyedtime.tables import Table, reading_of, spelled, tapped
from keyedtime.taps import Taps
from tests.by_words import drawn, drawn_widths, grown, least_by_words, pair_of
from tests.tables import MORSE, STRANGE

BELOW_ONE = Fraction(10 ** 30 - 1, 10 ** 30)
TABLE = Table(MORSE)
# 100, 190, 100: by 9/29 it is "i", by 11/29 "ee", by 13/29 "t t", and by no other width below 1.
TAPS = Taps([100, 190, 100])


class WordedTest(unittest.TestCase):
    def test_all_that_stand_in_the_book(self):
        every = [("i", [1, 1, 1], (9, 29)), ("ee", [1, 3, 1], (11, 29)), ("t t", [3, 7, 3], (13, 29))]
        self.assertEqual(worded(TABLE, ["t", "ee", "i"], TAPS, (1, 2)), every)
        self.assertEqual(worded(TABLE, ["ee", "i"], TAPS, (1, 2)), every[:2])
        self.assertEqual(worded(TABLE, ["t", "x", "ee"], TAPS, (1, 2)), every[1:])
        self.assertEqual(worded(TABLE, ["t"], TAPS, (1, 2)), every[2:])

    def test_no_more_than_the_width_allows(self):
        book = ["t", "ee", "i"]
        self.assertEqual([row[0] for row in worded(TABLE, book, TAPS, (12, 29))], ["i", "ee"])
        self.assertEqual([row[0] for row in worded(TABLE, book, TAPS, (9, 29))], ["i"])
        self.assertEqual(worded(TABLE, book, TAPS, (8, 29)), [])
        self.assertEqual(worded(TABLE, book, TAPS, (0, 1)), [])

    def test_all_words_of_a_text(self):
        taps = tapped(TABLE, "an e", 50)
        self.assertEqual(worded(TABLE, ["an", "e"], taps, (0, 1)), [("an e", reading_of(TABLE, "an e"), (0, 1))])
        for book in (["an"], ["e"], ["a", "n", "e"], ["ane"], ["an", "ee"]):
            self.assertEqual(worded(TABLE, book, taps, (0, 1)), [])

    def test_words_are_whole(self):
        self.assertEqual(worded(TABLE, ["e"], TAPS, (1, 2)), [])
        self.assertEqual(worded(TABLE, ["eee", "tt", "ii"], TAPS, (1, 2)), [])

    def test_a_word_may_stand_twice_in_a_text(self):
        self.assertEqual(worded(TABLE, ["t"], TAPS, (1, 2))[0][0], "t t")

    def test_empty_book_and_empty_table(self):
        self.assertEqual(worded(TABLE, [], TAPS, (998, 999)), [])
        self.assertEqual(worded(Table([]), ["e", "t", "i"], TAPS, (998, 999)), [])
        self.assertEqual(worded(Table([]), [], TAPS, (0, 1)), [])

    def test_alike_widths_in_order(self):
        book = ["t", "e", "ee", "i"]
        texts = [(text, width) for text, _, width in worded(TABLE, book, Taps([1, 2, 1]), (1, 3))]
        self.assertEqual(texts, [("i", (1, 3)), ("ee", (1, 3)), ("t t", (1, 3))])

    def test_by_all_readings(self):
        chance, found = random.Random(31), 0
        for _ in range(150):
            times, reading = drawn(chance, (1, 3, 5, 7, 9))
            taps, book = Taps(times), drawn_book(chance, times)
            for width in drawn_widths(chance, least_by_words(times, reading)):
                expected = []
                for one, least in readings(taps, pair_of(width)):
                    text = spelled(TABLE, taps, one)
                    if set(text.split(" ")) <= set(book):
                        expected.append((text, one, least))
                self.assertEqual(worded(TABLE, book, taps, pair_of(width)), expected)
                found += len(expected)
        self.assertGreater(found, 200)


def drawn_book(chance, times):
    """Some of the words that any reading of the times spells."""
    every = {}
    for reading, _ in readings(Taps(times), pair_of(BELOW_ONE)):
        for word in spelled(TABLE, Taps(times), reading).split(" "):
            if "?" not in word:
                every[word] = True
    return [word for word in every if chance.random() < 0.6] + ["never"]


class ToldTest(unittest.TestCase):
    def test_the_first_one_whose_words_stand_in_the_book(self):
        self.assertEqual(told(TABLE, ["t", "ee", "i"], TAPS), ("i", (9, 29)))
        self.assertEqual(told(TABLE, ["t", "ee"], TAPS), ("ee", (11, 29)))
        self.assertEqual(told(TABLE, ["t"], TAPS), ("t t", (13, 29)))

    def test_none(self):
        self.assertIsNone(told(TABLE, ["e"], TAPS))
        self.assertIsNone(told(TABLE, [], TAPS))
        self.assertIsNone(told(Table([]), ["e", "i"], TAPS))
        self.assertIsNone(told(TABLE, ["sos"], tapped(TABLE, "so s", 3)))

    def test_one_time(self):
        self.assertEqual(told(TABLE, ["t", "e"], Taps([17])), ("e", (0, 1)))
        self.assertEqual(told(TABLE, ["t"], Taps([17])), ("t", (0, 1)))
        self.assertEqual(told(Table(STRANGE), ["z"], Taps([17])), ("z", (0, 1)))

    def test_twenty_five_times(self):
        taps = tapped(TABLE, "hh he", 300)
        self.assertEqual(len(taps.times()), 25)
        self.assertEqual(told(TABLE, ["he", "hh"], taps), ("hh he", (0, 1)))
        taps = tapped(TABLE, "e" * 13, 300)
        self.assertEqual(len(taps.times()), 25)
        self.assertEqual(told(TABLE, ["e" * 13], taps), ("e" * 13, (0, 1)))

    def test_near_one(self):
        taps = Taps([9998, 9999, 9998])
        self.assertEqual(told(TABLE, ["ee"], taps), ("ee", (19995, 19997)))

    def test_not_by_a_width_of_one_or_more(self):
        # [1, 3, 1] asks 1 here, [1, 7, 1] asks 3.
        self.assertIsNone(told(TABLE, ["ee", "e"], Taps([5, 5, 5])))
        self.assertEqual(told(TABLE, ["ee", "e", "tt"], Taps([5, 5, 5])), ("tt", (0, 1)))

    def test_by_all_readings(self):
        chance, found = random.Random(32), {True: 0, False: 0}
        for _ in range(120):
            times, _ = drawn(chance, (1, 3, 5, 7, 25))
            taps, book = Taps(times), drawn_book(chance, times)
            expected = None
            for reading, least in reversed(grown(times, BELOW_ONE)):
                text = spelled(TABLE, taps, reading)
                if set(text.split(" ")) <= set(book):
                    expected = (text, least)
            self.assertEqual(told(TABLE, book, taps), expected)
            found[expected is None] += 1
        self.assertGreater(min(found.values()), 10)


class RefusedTest(unittest.TestCase):
    def refused(self, book, at, why):
        handed = list(book)
        for width in ((1, 2), (1, 1), (2, 4), (-1, 2)):
            with self.assertRaises(BadTable) as caught:
                worded(TABLE, handed, TAPS, width)
            self.assertEqual((caught.exception.at, caught.exception.why), (at, why))
        with self.assertRaises(BadTable) as caught:
            told(TABLE, handed, TAPS)
        self.assertEqual((caught.exception.at, caught.exception.why), (at, why))
        self.assertEqual(handed, book)

    def test_word(self):
        for bad in ("", " ", "E", "eE", "a b", "e ", " e", "e?", "?", "3", "a-b", "\u00e9", "\u0430", "e\n"):
            self.refused([bad], 0, "word")
            self.refused(["e", "t", bad, "i"], 2, "word")

    def test_twice(self):
        self.refused(["e", "e"], 1, "twice")
        self.refused(["e", "t", "i", "ee", "t"], 4, "twice")
        self.refused(["ee", "e", "ee", "e"], 2, "twice")

    def test_first_bad_one(self):
        self.refused(["e", "e", ""], 1, "twice")
        self.refused(["e", "E", "e"], 1, "word")
        self.refused(["", ""], 0, "word")
        self.refused(["e", "", ""], 1, "word")

    def test_words_of_other_letters_are_taken(self):
        self.assertEqual(worded(Table([]), ["zebra"], TAPS, (1, 2)), [])
        self.assertIsNone(told(Table([]), ["zebra", "e" * 1000], TAPS))

    def test_bad_width(self):
        for width in ((1, 1), (2, 4), (-1, 2), (1, 0), (1, -2), (0, 2)):
            for book in ([], ["e"], ["i"]):
                with self.assertRaises(BadWidth):
                    worded(TABLE, book, TAPS, width)


class CopiesTest(unittest.TestCase):
    """Point [1]."""

    def test_what_is_handed_in_stays(self):
        book, rows = ["t", "ee", "i"], list(MORSE)
        table = Table(rows)
        worded(table, book, TAPS, (1, 2))
        told(table, book, TAPS)
        self.assertEqual(book, ["t", "ee", "i"])
        self.assertEqual(rows, MORSE)
        self.assertEqual(table.letters(), MORSE)
        self.assertEqual(TAPS.times(), [100, 190, 100])

    def test_book_is_not_kept(self):
        book = ["t", "ee", "i"]
        self.assertEqual(told(TABLE, book, TAPS), ("i", (9, 29)))
        book.pop()
        self.assertEqual(told(TABLE, book, TAPS), ("ee", (11, 29)))

    def test_what_is_told_may_be_changed(self):
        book = ["t", "ee", "i"]
        first = worded(TABLE, book, TAPS, (11, 29))
        first[0][1].append(7)
        self.assertEqual(first[1], ("ee", [1, 3, 1], (11, 29)))
        first.clear()
        again = [("i", [1, 1, 1], (9, 29)), ("ee", [1, 3, 1], (11, 29))]
        self.assertEqual(worded(TABLE, book, TAPS, (11, 29)), again)


class InterfaceTest(unittest.TestCase):
    def test_names_and_arguments(self):
        listed = {"worded": ["table", "book", "taps", "width"], "told": ["table", "book", "taps"]}
        for name, arguments in listed.items():
            function = getattr(books, name)
            self.assertEqual(list(inspect.signature(function).parameters), arguments)
            self.assertEqual(function.__module__, "keyedtime.books")

    def test_kinds_of_what_is_told(self):
        rows = worded(TABLE, ["i", "ee"], TAPS, (1, 2))
        self.assertIs(type(rows), list)
        for row in rows:
            self.assertIs(type(row), tuple)
            self.assertEqual([type(part) for part in row], [str, list, tuple])
        row = told(TABLE, ["i"], TAPS)
        self.assertEqual([type(row)] + [type(part) for part in row], [tuple, str, tuple])


if __name__ == "__main__":
    unittest.main()
