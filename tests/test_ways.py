"""Points 1, 3 and 14 to 16, and the interface of dipmaps/ways.py."""

import itertools
import unittest

from dipmaps.book import Book
from dipmaps.errors import NoShade
from dipmaps.ways import way

NO_NAMES = ["", "abcdefghi", "Ecru", "ecru2", "ec ru", "ecru\n", " ecru", "ecru "]


def seen(book):
    return book.shades(), book.baths(), [book.table(bath) for bath in book.baths()]


def chain_book():
    """Twelve shades; step alone leads on, one shade at a time, and back leads to the first one."""
    shades = [chr(ord("a") + place) for place in range(12)]
    return Book(shades, [("step", shades[1:] + shades[11:]), ("back", shades[:1] * 12)])


def fork_book():
    """From top to low two baths: through left by a then d, through right by b then c; low stays."""
    return Book(["top", "left", "right", "low"],
                [("a", ["left", "left", "right", "low"]), ("b", ["right", "left", "right", "low"]),
                 ("c", ["top", "left", "low", "low"]), ("d", ["top", "low", "right", "low"])])


def end_of(book, row, shade):
    for bath in row:
        shade = book.out(bath, shade)
    return shade


def first_rows(book, first):
    """For each shade the first row by length and then by names: all rows are tried, one behind the other."""
    rows = {}
    for length in range(len(book.shades())):
        for row in itertools.product(book.baths(), repeat=length):
            rows.setdefault(end_of(book, row, first), list(row))
    return rows


def small_books():
    """Every book of three shades and two baths, and some of one bath or none."""
    shades = ["b", "ab", "abc"]
    tables = [list(outs) for outs in itertools.product(shades, repeat=3)]
    for one, other in itertools.product(tables, tables):
        yield Book(shades, [("dip", one), ("di", other)])
    for outs in tables:
        yield Book(shades, [("dip", outs)])
    yield Book(shades, [])


def larger_books():
    """Books of five or six shades and three baths, their tables mixed by reckoning."""
    for seed in range(120):
        count = 5 + seed % 2
        shades = ["e", "bb", "d", "b", "a", "c"][:count]
        baths = []
        for place, bath in enumerate(["mix", "m", "a"]):
            factor = 1 + (seed * 7 + place * 3) % 11
            baths.append((bath, [shades[(factor * number * number + seed * place + number // 2) % count]
                                 for number in range(count)]))
        yield Book(shades, baths)


def check_no_way(case, book, first, last):
    row, shades = way(book, first, last)
    case.assertIsNone(row)
    case.assertIsInstance(shades, list)
    case.assertEqual(shades, sorted(set(shades)))
    case.assertIn(first, shades)
    case.assertNotIn(last, shades)
    for bath, shade in itertools.product(book.baths(), shades):
        case.assertIn(book.out(bath, shade), shades)
    case.assertLessEqual(set(shades), set(book.shades()))


class Row(unittest.TestCase):
    """Point 14: the told row."""

    def test_from_a_shade_to_itself(self):
        for book in (chain_book(), fork_book(), Book(["b", "a"], []), Book(["a"], [("stay", ["a"])])):
            for shade in book.shades():
                self.assertEqual(way(book, shade, shade)[0], [])

    def test_one_bath(self):
        self.assertEqual(way(fork_book(), "top", "left")[0], ["a"])
        self.assertEqual(way(fork_book(), "top", "right")[0], ["b"])

    def test_two_shortest_rows(self):
        self.assertEqual(way(fork_book(), "top", "low")[0], ["a", "d"])

    def test_the_first_place_decides(self):
        # Through right the last bath goes ahead by name, but through left the first one does.
        book = Book(["low", "right", "left", "top"],
                    [("b", ["low", "low", "left", "right"]), ("ab", ["low", "right", "left", "left"]),
                     ("z", ["low", "right", "low", "top"])])
        self.assertEqual(way(book, "top", "low")[0], ["ab", "z"])

    def test_a_shorter_row_goes_ahead_of_one_that_is_first_by_names(self):
        book = Book(["top", "mid", "low"], [("a", ["mid", "low", "low"]), ("z", ["low", "low", "low"])])
        self.assertEqual(way(book, "top", "low"), (["z"], [("low", 1), ("mid", 1), ("top", 0)]))

    def test_two_baths_of_one_table(self):
        for names in itertools.permutations(["b", "ba", "c"]):
            book = Book(["x", "y", "z"], [(bath, ["y", "z", "z"]) for bath in names])
            self.assertEqual(way(book, "x", "y")[0], ["b"])
            self.assertEqual(way(book, "x", "z")[0], ["b", "b"])

    def test_the_order_in_which_shades_and_baths_were_handed_in(self):
        comes_out = {"a": {"top": "left", "left": "left", "right": "right", "low": "low"},
                     "b": {"top": "right", "left": "low", "right": "low", "low": "low"}}
        for shades in itertools.permutations(["top", "left", "right", "low"]):
            for baths in (["a", "b"], ["b", "a"]):
                tables = [(bath, [comes_out[bath][shade] for shade in shades]) for bath in baths]
                self.assertEqual(way(Book(list(shades), tables), "top", "low"),
                                 (["a", "b"], [("left", 1), ("low", 2), ("right", 1), ("top", 0)]))

    def test_eleven_baths(self):
        book = chain_book()
        numbers = [(shade, place) for place, shade in enumerate(book.shades())]
        self.assertEqual(way(book, "a", "l"), (["step"] * 11, numbers))
        self.assertEqual(way(book, "b", "l")[0], ["step"] * 10)
        self.assertEqual(way(book, "l", "k")[0], ["back"] + ["step"] * 10)
        self.assertEqual(way(book, "l", "a")[0], ["back"])

    def test_eleven_baths_where_all_eight_matter(self):
        # Only one bath leads on from each shade, and all others leave it.
        shades = [chr(ord("a") + place) for place in range(12)]
        names = ["h", "g", "f", "e", "d", "c", "b", "a"]
        baths = []
        for turn, bath in enumerate(names):
            baths.append((bath, [shades[place + 1] if place % 8 == turn and place < 11 else shades[place]
                                 for place in range(12)]))
        self.assertEqual(way(Book(shades, baths), "a", "l")[0], names + names[:3])

    def test_a_book_without_baths(self):
        book = Book(["navy", "ecru"], [])
        self.assertEqual(way(book, "ecru", "ecru"), ([], [("ecru", 0)]))
        self.assertEqual(way(book, "navy", "navy"), ([], [("navy", 0)]))
        self.assertEqual(way(book, "ecru", "navy"), (None, ["ecru"]))
        self.assertEqual(way(Book(["a"], []), "a", "a"), ([], [("a", 0)]))

    def test_strange_shades(self):
        for book in (fork_book(), Book(["low"], []), Book(["low"], [("a", ["low"])])):
            for text in ["rose", "lo", "lows", "a"] + NO_NAMES:
                for first, last in ((text, "low"), ("low", text), (text, text), (text, "rose"), ("rose", text)):
                    with self.subTest(first=first, last=last), self.assertRaises(NoShade):
                        way(book, first, last)

    def test_arguments_by_name(self):
        self.assertEqual(way(book=fork_book(), first="top", last="left")[0], ["a"])


class Numbers(unittest.TestCase):
    """Point 15: the numbers beside the row."""

    def test_all_that_can_be_reached(self):
        self.assertEqual(way(fork_book(), "top", "low")[1], [("left", 1), ("low", 2), ("right", 1), ("top", 0)])

    def test_no_other_than_can_be_reached(self):
        self.assertEqual(way(fork_book(), "left", "low"), (["d"], [("left", 0), ("low", 1)]))
        self.assertEqual(way(fork_book(), "low", "low"), ([], [("low", 0)]))

    def test_numbers_greater_than_the_last_one(self):
        book = chain_book()
        numbers = [(shade, place) for place, shade in enumerate(book.shades())]
        for place, shade in enumerate(book.shades()):
            self.assertEqual(way(book, "a", shade), (["step"] * place, numbers))
        self.assertEqual(way(fork_book(), "top", "top"), ([], [("left", 1), ("low", 2), ("right", 1), ("top", 0)]))

    def test_the_order_of_names(self):
        book = Book(["c", "ab", "abc", "b"], [("dip", ["ab", "b", "ab", "abc"])])
        self.assertEqual(way(book, "c", "ab"), (["dip"], [("ab", 1), ("abc", 3), ("b", 2), ("c", 0)]))


class NoWay(unittest.TestCase):
    """Point 16: no row leads from the first to the last."""

    def test_none_leads_there(self):
        book = fork_book()
        for first, last in (("low", "top"), ("low", "left"), ("left", "top"), ("left", "right"), ("right", "left")):
            check_no_way(self, book, first, last)

    def test_a_first_shade_that_leads_far(self):
        shades = [chr(ord("a") + place) for place in range(12)]
        turned = [shades[0]] + shades[2:] + shades[1:2]
        book = Book(shades, [("turn", turned), ("stay", shades)])
        for shade in shades[1:]:
            check_no_way(self, book, shade, "a")
            check_no_way(self, book, "a", shade)

    def test_a_book_without_baths(self):
        for first, last in itertools.permutations(["a", "b", "c"], 2):
            check_no_way(self, Book(["c", "a", "b"], []), first, last)


class Every(unittest.TestCase):
    """Points 14 to 16 against all rows tried one behind the other."""

    def check(self, book):
        for first in book.shades():
            rows = first_rows(book, first)
            numbers = [(shade, len(rows[shade])) for shade in sorted(rows)]
            for last in book.shades():
                told = way(book, first, last)
                self.assertIsInstance(told, tuple)
                if last in rows:
                    self.assertEqual(told, (rows[last], numbers))
                else:
                    check_no_way(self, book, first, last)

    def test_small_books(self):
        for book in small_books():
            self.check(book)

    def test_larger_books(self):
        for book in larger_books():
            self.check(book)


class Apart(unittest.TestCase):
    """Point 1: lists are told anew, and a Book stays as it is."""

    def test_kinds(self):
        told = way(fork_book(), "top", "low")
        self.assertIsInstance(told, tuple)
        self.assertEqual([type(part) for part in told], [list, list])
        for pair in told[1]:
            self.assertEqual((type(pair), type(pair[0]), type(pair[1])), (tuple, str, int))
        told = way(fork_book(), "low", "top")
        self.assertIsInstance(told, tuple)
        self.assertEqual((len(told), type(told[1])), (2, list))

    def spoil(self, told):
        told.reverse()
        told.append("rose")
        told[0] = "wash"

    def test_lists_told_are_new(self):
        book = fork_book()
        before = seen(book)
        for first, last in itertools.product(book.shades(), repeat=2):
            told = way(book, first, last)
            kept = (None if told[0] is None else list(told[0]), list(told[1]))
            again = way(book, first, last)
            self.assertIsNot(told[1], again[1])
            for part in told:
                if part is not None:
                    self.spoil(part)
            self.assertEqual(again, kept)
            self.assertEqual(way(book, first, last), kept)
            self.assertEqual(seen(book), before)

    def test_row_and_numbers_are_apart(self):
        row, numbers = way(fork_book(), "top", "top")
        row.append("wash")
        self.assertEqual(numbers, [("left", 1), ("low", 2), ("right", 1), ("top", 0)])

    def test_a_refused_question_changes_nothing(self):
        book = fork_book()
        before = seen(book)
        for first, last in (("rose", "low"), ("top", "rose"), ("rose", "rose")):
            with self.assertRaises(NoShade):
                way(book, first, last)
            self.assertEqual(seen(book), before)


if __name__ == "__main__":
    unittest.main()
