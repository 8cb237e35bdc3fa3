"""Points 1, 3 and 10 to 13, and the interface of dipmaps/rows.py."""

import itertools
import unittest

from dipmaps.book import Book
from dipmaps.errors import NoBath, NoShade, TooLong
from dipmaps.rows import parted, passed, through

NO_NAMES = ["", "abcdefghi", "Turn", "turn2", "tu rn", "turn\n", " turn", "turn "]
STRANGE = ["wash", "tur", "turns", "ecru", "navy"] + NO_NAMES
STRANGE_SHADES = ["rose", "ecr", "ecrus", "turn", "dark"] + NO_NAMES


def small_book():
    """turn: ecru to lime, lime to navy, navy to ecru. dark: ecru to navy. stay: none to another."""
    return Book(["navy", "ecru", "lime"], [("turn", ["ecru", "lime", "navy"]),
                                           ("stay", ["navy", "ecru", "lime"]),
                                           ("dark", ["navy", "navy", "lime"])])


def seen(book):
    return book.shades(), book.baths(), [book.table(bath) for bath in book.baths()]


def twelve_book():
    """step brings each of twelve shades to the one behind it, the last one to the first."""
    shades = [chr(ord("a") + place) for place in range(12)]
    return Book(shades, [("step", shades[1:] + shades[:1]), ("fall", shades[:1] * 12)])


def every_row(book, most):
    for length in range(most + 1):
        for row in itertools.product(book.baths(), repeat=length):
            yield list(row)


class Through(unittest.TestCase):
    """Points 10 and 11: a row's table."""

    def test_the_empty_row(self):
        self.assertEqual(through(small_book(), []), ["ecru", "lime", "navy"])
        self.assertEqual(through(Book(["b", "a"], []), []), ["a", "b"])
        self.assertEqual(through(Book(["a"], []), []), ["a"])

    def test_one_bath(self):
        book = small_book()
        for bath in book.baths():
            self.assertEqual(through(book, [bath]), book.table(bath))

    def test_a_bath_more_than_once(self):
        book = small_book()
        self.assertEqual(through(book, ["turn", "turn"]), ["navy", "ecru", "lime"])
        self.assertEqual(through(book, ["turn"] * 3), ["ecru", "lime", "navy"])
        self.assertEqual(through(book, ["dark", "turn", "dark"]), ["navy", "navy", "navy"])
        self.assertEqual(through(book, ["turn", "dark", "turn"]), ["navy", "ecru", "ecru"])

    def test_the_order_of_the_baths(self):
        book = small_book()
        self.assertEqual(through(book, ["dark", "turn"]), ["ecru", "navy", "ecru"])
        self.assertEqual(through(book, ["turn", "dark"]), ["lime", "navy", "navy"])

    def test_every_row_of_up_to_five_baths(self):
        book = small_book()
        for row in every_row(book, 5):
            table = book.shades()
            for bath in row:
                table = [book.out(bath, shade) for shade in table]
            self.assertEqual(through(book, row), table)

    def test_forty_baths(self):
        book = twelve_book()
        shades = book.shades()
        self.assertEqual(through(book, ["step"] * 39), shades[3:] + shades[:3])
        self.assertEqual(through(book, ["step"] * 40), shades[4:] + shades[:4])
        self.assertEqual(through(book, ["step"] * 39 + ["fall"]), ["a"] * 12)
        self.assertEqual(through(book, ["fall"] + ["step"] * 39), ["d"] * 12)

    def test_too_long(self):
        for row in (["step"] * 41, ["fall"] * 42, ["step"] * 100):
            with self.assertRaises(TooLong):
                through(twelve_book(), row)

    def test_a_strange_bath(self):
        for bath in STRANGE:
            for row in ([bath], [bath, "turn"], ["turn", bath], ["turn"] * 39 + [bath]):
                with self.subTest(row), self.assertRaises(NoBath):
                    through(small_book(), row)
        with self.assertRaises(NoBath):
            through(Book(["ecru"], []), ["ecru"])

    def test_no_bath_goes_ahead_of_too_long(self):
        for bath in STRANGE:
            for row in ([bath] + ["turn"] * 40, ["turn"] * 40 + [bath], ["turn"] * 60 + [bath], [bath] * 41):
                with self.subTest(row), self.assertRaises(NoBath):
                    through(small_book(), row)

    def test_arguments_by_name(self):
        self.assertEqual(through(book=small_book(), row=["dark"]), ["navy", "lime", "navy"])


class Passed(unittest.TestCase):
    """Points 10 and 12: a shade's walk."""

    def test_the_empty_row(self):
        for shade in ("ecru", "lime", "navy"):
            self.assertEqual(passed(small_book(), [], shade), [shade])
        self.assertEqual(passed(Book(["a"], []), [], "a"), ["a"])

    def test_walks(self):
        book = small_book()
        self.assertEqual(passed(book, ["turn", "turn", "turn"], "ecru"), ["ecru", "lime", "navy", "ecru"])
        self.assertEqual(passed(book, ["dark", "turn"], "ecru"), ["ecru", "navy", "ecru"])
        self.assertEqual(passed(book, ["turn", "dark"], "ecru"), ["ecru", "lime", "lime"])
        self.assertEqual(passed(book, ["stay", "dark", "stay"], "ecru"), ["ecru", "ecru", "navy", "navy"])

    def test_every_row_of_up_to_four_baths(self):
        book = small_book()
        for row in every_row(book, 4):
            for place, shade in enumerate(book.shades()):
                walk = passed(book, row, shade)
                self.assertEqual(len(walk), len(row) + 1)
                self.assertEqual(walk[0], shade)
                for bath, before, behind in zip(row, walk, walk[1:]):
                    self.assertEqual(book.out(bath, before), behind)
                self.assertEqual(walk[-1], through(book, row)[place])

    def test_forty_baths(self):
        book = twelve_book()
        walk = passed(book, ["step"] * 40, "c")
        self.assertEqual(walk, [book.shades()[(place + 2) % 12] for place in range(41)])

    def test_too_long(self):
        for row in (["turn"] * 41, ["stay"] * 42, ["turn"] * 100):
            with self.assertRaises(TooLong):
                passed(small_book(), row, "ecru")

    def test_a_strange_shade(self):
        for shade in STRANGE_SHADES:
            for row in ([], ["turn"], ["turn"] * 40):
                with self.subTest(row=row, shade=shade), self.assertRaises(NoShade):
                    passed(small_book(), row, shade)

    def test_a_strange_bath(self):
        for bath in STRANGE:
            for row in ([bath], ["turn", bath], [bath, "turn"]):
                with self.subTest(row), self.assertRaises(NoBath):
                    passed(small_book(), row, "ecru")

    def test_no_bath_goes_ahead_of_no_shade(self):
        for bath, shade in itertools.product(STRANGE, STRANGE_SHADES):
            for row in ([bath], ["turn", bath], ["turn"] * 39 + [bath]):
                with self.subTest(row=row, shade=shade), self.assertRaises(NoBath):
                    passed(small_book(), row, shade)

    def test_no_bath_goes_ahead_of_too_long(self):
        for bath in STRANGE:
            for row in ([bath] + ["turn"] * 40, ["turn"] * 40 + [bath], ["turn"] * 60 + [bath]):
                with self.subTest(row), self.assertRaises(NoBath):
                    passed(small_book(), row, "ecru")

    def test_no_shade_goes_ahead_of_too_long(self):
        for shade in STRANGE_SHADES:
            for row in (["turn"] * 41, ["turn"] * 60):
                with self.subTest(row=row, shade=shade), self.assertRaises(NoShade):
                    passed(small_book(), row, shade)

    def test_all_three_due(self):
        for bath, shade in itertools.product(STRANGE, STRANGE_SHADES):
            for row in ([bath] + ["turn"] * 40, ["turn"] * 40 + [bath], ["turn"] * 60 + [bath]):
                with self.subTest(row=row, shade=shade), self.assertRaises(NoBath):
                    passed(small_book(), row, shade)

    def test_arguments_by_name(self):
        self.assertEqual(passed(book=small_book(), row=["dark"], shade="ecru"), ["ecru", "navy"])


class Parted(unittest.TestCase):
    """Points 10 and 13: the shade that parts two rows."""

    def test_rows_that_do_the_same(self):
        book = small_book()
        for one, other in ([[], []], [["turn"], ["turn"]], [[], ["stay"]], [["turn"] * 3, []],
                           [["dark", "dark"], ["dark"]], [["turn", "stay"], ["stay", "turn"]],
                           [["turn"] * 40, ["turn"]], [["stay"] * 40, ["turn"] * 39]):
            self.assertIsNone(parted(book, one, other))
            self.assertIsNone(parted(book, other, one))

    def test_rows_that_part_one_shade_alone(self):
        book = Book(["c", "b", "a"], [("onlya", ["c", "b", "b"]), ("onlyb", ["c", "a", "a"]),
                                      ("onlyc", ["a", "b", "a"])])
        for shade in ("a", "b", "c"):
            self.assertEqual(parted(book, [], ["only" + shade]), shade)
            self.assertEqual(parted(book, ["only" + shade], []), shade)
            self.assertEqual(parted(book, ["only" + shade], ["only" + shade, "only" + shade]), None)

    def test_rows_that_part_more_than_one_shade(self):
        book = small_book()
        self.assertEqual(parted(book, ["turn"], ["stay"]), "ecru")
        self.assertEqual(parted(book, ["turn", "dark"], ["stay"]), "ecru")
        self.assertEqual(parted(book, ["turn", "turn", "dark"], ["dark"]), "lime")
        self.assertEqual(parted(book, ["dark"], ["turn", "turn", "dark"]), "lime")
        self.assertEqual(parted(book, [], ["turn"] * 40), "ecru")

    def test_the_first_by_name_whatever_order_was_handed_in(self):
        for shades in itertools.permutations(["a", "ab", "b"]):
            book = Book(list(shades), [("toab", ["ab"] * 3), ("stay", list(shades))])
            self.assertEqual(parted(book, ["toab"], ["stay"]), "a")
            swap = {"a": "a", "ab": "b", "b": "ab"}
            book = Book(list(shades), [("swap", [swap[shade] for shade in shades])])
            self.assertEqual(parted(book, ["swap"], []), "ab")

    def test_every_two_rows_of_up_to_three_baths(self):
        book = small_book()
        rows = list(every_row(book, 3))
        for one, other in itertools.product(rows, rows):
            apart = [shade for shade in ("ecru", "lime", "navy")
                     if passed(book, one, shade)[-1] != passed(book, other, shade)[-1]]
            self.assertEqual(parted(book, one, other), apart[0] if apart else None)

    def test_a_book_without_baths(self):
        self.assertIsNone(parted(Book(["a", "b"], []), [], []))

    def refuse(self, error, one, other):
        with self.subTest(one=one, other=other):
            with self.assertRaises(error):
                parted(small_book(), one, other)
            with self.assertRaises(error):
                parted(small_book(), other, one)

    def test_too_long(self):
        for row in (["turn"] * 41, ["stay"] * 42, ["turn"] * 100):
            self.refuse(TooLong, row, [])
            self.refuse(TooLong, row, ["turn"] * 40)
            self.refuse(TooLong, row, ["turn"] * 41)
            self.refuse(TooLong, row, row)

    def test_a_strange_bath(self):
        for bath in STRANGE:
            for row in ([bath], [bath, "turn"], ["turn", bath], ["turn"] * 39 + [bath]):
                self.refuse(NoBath, row, [])
                self.refuse(NoBath, row, ["turn"] * 40)
                self.refuse(NoBath, row, row)

    def test_no_bath_goes_ahead_of_too_long(self):
        for bath in STRANGE:
            for row in ([bath], ["turn", bath], [bath] + ["turn"] * 40, ["turn"] * 40 + [bath], ["turn"] * 60 + [bath]):
                self.refuse(NoBath, row, ["turn"] * 41)
                self.refuse(NoBath, row, ["turn"] * 100)
                self.refuse(NoBath, row, [])
                self.refuse(NoBath, row, row)

    def test_arguments_by_name(self):
        self.assertEqual(parted(book=small_book(), one=["dark"], other=["stay"]), "ecru")


class Apart(unittest.TestCase):
    """Point 1: rows are not changed and not kept, and lists are told anew."""

    def test_rows_handed_in_stay(self):
        book = small_book()
        for row in ([], ["turn"], ["turn", "dark", "turn"], ["stay"] * 40):
            before = list(row)
            through(book, row)
            passed(book, row, "lime")
            parted(book, row, ["dark"])
            parted(book, ["dark"], row)
            parted(book, row, row)
            self.assertEqual(row, before)

    def test_refused_rows_stay(self):
        book = small_book()
        before = seen(book)
        for row in (["turn", "wash"], ["turn"] * 41, ["wash"] * 41):
            handed = list(row)
            for ask in (lambda: through(book, handed), lambda: passed(book, handed, "ecru"),
                        lambda: parted(book, handed, []), lambda: parted(book, [], handed)):
                with self.assertRaises((NoBath, TooLong)):
                    ask()
                self.assertEqual(handed, row)
                self.assertEqual(seen(book), before)

    def test_rows_handed_in_are_not_kept(self):
        book = small_book()
        before = seen(book)
        row = ["turn", "dark"]
        other = ["stay"]
        table = through(book, row)
        walk = passed(book, row, "ecru")
        self.assertEqual(parted(book, row, other), "ecru")
        row[0] = "stay"
        row.append("wash")
        other.clear()
        self.assertEqual(table, ["lime", "navy", "navy"])
        self.assertEqual(walk, ["ecru", "lime", "lime"])
        self.assertEqual(seen(book), before)
        self.assertEqual(through(book, ["turn", "dark"]), ["lime", "navy", "navy"])
        self.assertEqual(passed(book, ["turn", "dark"], "ecru"), ["ecru", "lime", "lime"])

    def test_lists_told_are_new(self):
        book = small_book()
        before = seen(book)
        for row in ([], ["turn"], ["stay"], ["dark", "turn"]):
            for tell in (lambda: through(book, row), lambda: passed(book, row, "lime")):
                told = tell()
                self.assertIsInstance(told, list)
                self.assertIsNot(told, row)
                kept = list(told)
                handed = list(row)
                self.assertIsNot(tell(), told)
                told[0] = "rose"
                told.reverse()
                told.append("wash")
                self.assertEqual(tell(), kept)
                self.assertEqual(row, handed)
                self.assertEqual(seen(book), before)


if __name__ == "__main__":
    unittest.main()
