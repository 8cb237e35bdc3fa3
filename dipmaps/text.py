"""Books as texts: a row of the shades, then a row for each bath."""

from dipmaps.book import Book
from dipmaps.errors import BadBook, BadText


def write_row(words):
    return " ".join(words) + "\n"


def write_book(book):
    rows = [write_row(["shades"] + book.shades())]
    for bath in book.baths():
        rows.append(write_row(["bath", bath] + book.table(bath)))
    return "".join(rows)


def bath_of(words):
    if len(words) < 2:
        raise BadText("a row has no words behind its first one")
    return (words[1], words[2:])


def loosely_read(text):
    rows = [row.split(" ") for row in text.split("\n")]
    # What stands behind the last line feed is left out here.
    baths = [bath_of(words) for words in rows[1:-1]]
    try:
        return Book(rows[0][1:], baths)
    except BadBook as e:
        raise BadText("no book is written so") from e


def read_book(text):
    book = loosely_read(text)
    # A book has one text alone, so whatever the loose reading passed over shows here.
    if write_book(book) != text:
        raise BadText("this book is written otherwise")
    return book
