"""Sheets: taps, a table and a book, written as a text of rows."""

from keyedtime.books import check_book
from keyedtime.errors import BadText
from keyedtime.tables import Table
from keyedtime.taps import Taps

FIGURES = "0123456789"
MOST_FIGURES = 4


def written(taps, table, book):
    """Tell the sheet of the taps, the table and the book."""
    check_book(book)
    times = [str(time) for time in taps.times()]
    rows = ["taps " + " ".join(times)]
    rows += [f"letter {letter} {marks}" for letter, marks in table.letters()]
    rows += [f"word {word}" for word in book]
    return "\n".join(rows)


def is_number(word):
    """Tell whether a word is a number in one to four figures, the first one no 0."""
    if not 1 <= len(word) <= MOST_FIGURES or word[0] == "0":
        return False
    return all(sign in FIGURES for sign in word)


def is_first_row(row):
    """Tell whether the words of a row are those of the taps."""
    return row[0] == "taps" and len(row) >= 2 and all(is_number(word) for word in row[1:])


def is_next_row(row, ahead):
    """Tell whether the words of a row are those of one that may stand behind the one ahead."""
    if "" in row:
        return False
    if row[0] == "letter":
        return len(row) == 3 and ahead[0] != "word"
    return row[0] == "word" and len(row) == 2


def check_sheet(rows):
    """Refuse with BadText rows of words that are no sheet's."""
    if not is_first_row(rows[0]):
        raise BadText(0)
    for at in range(1, len(rows)):
        if not is_next_row(rows[at], rows[at - 1]):
            raise BadText(at)


def read(text):
    """Tell the taps, the table and the book of a sheet."""
    rows = [row.split(" ") for row in text.split("\n")]
    check_sheet(rows)
    taps = Taps([int(word) for word in rows[0][1:]])
    table = Table([(row[1], row[2]) for row in rows if row[0] == "letter"])
    book = [row[1] for row in rows if row[0] == "word"]
    check_book(book)
    return (taps, table, book)
