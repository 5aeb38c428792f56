"""Tables of letters and their marks, what readings spell by them, and taps of words."""

from keyedtime.checks import check_reading
from keyedtime.errors import BadTable, BadWords
from keyedtime.taps import MOST_TIMES, Taps

SMALL_LETTERS = "abcdefghijklmnopqrstuvwxyz"
MOST_MARKS = 6
GREATEST_UNIT = 999
NUMBER_OF = {".": 1, "-": 3}
MARK_OF = {1: ".", 3: "-"}
# The numbers where the key is up, between two marks, two letters and two words.
IN_LETTER = 1
IN_WORD = 3
IN_TEXT = 7


def is_small(text):
    """Tell whether a text is one or more small letters from a to z."""
    return text != "" and all(sign in SMALL_LETTERS for sign in text)


def is_marks(text):
    """Tell whether a text is one to six marks."""
    return 1 <= len(text) <= MOST_MARKS and all(sign in NUMBER_OF for sign in text)


def check_table(rows):
    """Refuse with BadTable what is no table."""
    seen = set()
    for at, (letter, marks) in enumerate(rows):
        if len(letter) != 1 or not is_small(letter):
            raise BadTable(at, "letter")
        if not is_marks(marks):
            raise BadTable(at, "marks")
        if letter in seen or marks in seen:
            raise BadTable(at, "twice")
        seen.add(letter)
        seen.add(marks)


class Table:
    """Letters and their marks."""

    def __init__(self, rows):
        check_table(rows)
        self._rows = list(rows)

    def letters(self):
        """Tell the tuples (letter, marks) as handed in, in a list that may be changed."""
        return list(self._rows)


def marks_of(reading):
    """Tell the words of a reading, each a list with the marks of each letter."""
    words = [[""]]
    for at, number in enumerate(reading):
        if at % 2 == 0:
            words[-1][-1] += MARK_OF[number]
        elif number == IN_WORD:
            words[-1].append("")
        elif number == IN_TEXT:
            words.append([""])
    return words


def word_of(letter_of, word):
    """Tell the word that the marks of some letters spell."""
    return "".join([letter_of.get(marks, "?") for marks in word])


def spelled(table, taps, reading):
    """Tell the text that the reading of the taps spells."""
    check_reading(taps.times(), reading)
    letter_of = {marks: letter for letter, marks in table.letters()}
    return " ".join([word_of(letter_of, word) for word in marks_of(reading)])


def reading_of(table, text):
    """Tell the reading that spells the text."""
    marks_by = {letter: marks for letter, marks in table.letters()}
    reading = []
    for word in text.split(" "):
        if word == "" or not all(letter in marks_by for letter in word):
            raise BadWords("a text has words of the table's letters, one blank between two")
        for letter in word:
            for mark in marks_by[letter]:
                reading.extend([NUMBER_OF[mark], IN_LETTER])
            reading[-1] = IN_WORD
        reading[-1] = IN_TEXT
    # Behind the last mark nothing follows that it would have to stand apart from.
    reading.pop()
    return reading


def tapped(table, text, unit):
    """Tell the taps of the text, each number of its reading so many units long."""
    reading = reading_of(table, text)
    if len(reading) > MOST_TIMES:
        raise BadWords("a text is tapped in 25 times at most")
    if not 1 <= unit <= GREATEST_UNIT:
        raise BadWords("a unit to tap by is from 1 to 999")
    return Taps([number * unit for number in reading])
