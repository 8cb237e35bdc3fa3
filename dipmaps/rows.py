"""Rows of baths: what comes out of the shades along a row, and what parts two rows."""

from dipmaps.errors import TooLong

MOST_IN_ROW = 40


def check_baths_of(book, row):
    for bath in row:
        book.check_bath(bath)


def check_length(row):
    if len(row) > MOST_IN_ROW:
        raise TooLong("these are too many baths for a row")


def walk(book, row, shade):
    shades = [shade]
    for bath in row:
        shades.append(book.out(bath, shades[-1]))
    return shades


def table_of(book, row):
    return [walk(book, row, shade)[-1] for shade in book.shades()]


def through(book, row):
    check_baths_of(book, row)
    check_length(row)
    return table_of(book, row)


def passed(book, row, shade):
    check_baths_of(book, row)
    # Between the two, since NoShade goes behind NoBath and ahead of TooLong.
    book.check_shade(shade)
    check_length(row)
    return walk(book, row, shade)


def parted(book, one, other):
    # Both rows' baths go first, since NoBath of the one goes ahead of TooLong of the other.
    check_baths_of(book, one)
    check_baths_of(book, other)
    check_length(one)
    check_length(other)
    for shade, left, right in zip(book.shades(), table_of(book, one), table_of(book, other)):
        if left != right:
            return shade
    return None
