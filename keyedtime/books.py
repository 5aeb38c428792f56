"""Books of words, and the readings whose words all stand in one."""

from keyedtime.errors import BadTable
from keyedtime.readings import readings, readings_below_one
from keyedtime.tables import is_small, spelled


def check_book(book):
    """Refuse with BadTable what is no book."""
    seen = set()
    for at, word in enumerate(book):
        if not is_small(word):
            raise BadTable(at, "word")
        if word in seen:
            raise BadTable(at, "twice")
        seen.add(word)


def in_book(table, book, taps, found):
    """Tell (text, reading, width) of those (reading, width) whose words all stand in the book."""
    known = []
    for reading, width in found:
        text = spelled(table, taps, reading)
        if all(word in book for word in text.split(" ")):
            known.append((text, reading, width))
    return known


def worded(table, book, taps, width):
    """Tell (text, reading, least width) of all readings that the width and the book allow."""
    check_book(book)
    return in_book(table, book, taps, readings(taps, width))


def told(table, book, taps):
    """Tell (text, least width) of the first reading of all whose words stand in the book, or None."""
    check_book(book)
    known = in_book(table, book, taps, readings_below_one(taps))
    if not known:
        return None
    text, _, width = known[0]
    return (text, width)
