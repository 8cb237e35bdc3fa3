"""Books of baths: each bath has a table that tells what comes out of every shade."""

from dipmaps.errors import BadBook, NoBath, NoShade
from dipmaps.names import good_name

MOST_SHADES = 12
MOST_BATHS = 8


def check_names(texts):
    for text in texts:
        if not good_name(text):
            raise BadBook(f"this is no name: {text!r}")
    if len(set(texts)) != len(texts):
        raise BadBook("one name stands twice")


def check_shades(shades):
    if len(shades) < 1:
        raise BadBook("a book has at least one shade")
    if len(shades) > MOST_SHADES:
        raise BadBook("these are too many shades")
    check_names(shades)


def check_outs(shades, outs):
    if len(outs) != len(shades):
        raise BadBook("a table tells one shade for each shade")
    for shade in outs:
        if shade not in shades:
            raise BadBook(f"this comes out and is no shade of the book: {shade!r}")


def check_baths(shades, baths):
    if len(baths) > MOST_BATHS:
        raise BadBook("these are too many baths")
    check_names([name for name, outs in baths])
    for name, outs in baths:
        check_outs(shades, outs)


class Book:

    def __init__(self, shades, baths):
        check_shades(shades)
        check_baths(shades, baths)
        self.order = tuple(sorted(shades))
        # Keyed by shade, so that the order in which the shades were handed in matters no more.
        self.tables = {}
        for name, outs in baths:
            self.tables[name] = dict(zip(shades, outs))

    def shades(self):
        return list(self.order)

    def baths(self):
        return sorted(self.tables)

    def table(self, bath):
        self.check_bath(bath)
        return [self.tables[bath][shade] for shade in self.order]

    def out(self, bath, shade):
        self.check_bath(bath)
        self.check_shade(shade)
        return self.tables[bath][shade]

    def changed(self, bath, outs):
        # Asked first, since NoBath goes ahead of the BadBook that the new Book may refuse with.
        self.check_bath(bath)
        baths = [(name, outs if name == bath else self.table(name)) for name in self.baths()]
        return Book(self.shades(), baths)

    def check_bath(self, bath):
        if bath not in self.tables:
            raise NoBath(f"the book does not have this bath: {bath!r}")

    def check_shade(self, shade):
        if shade not in self.order:
            raise NoShade(f"the book does not have this shade: {shade!r}")
