"""Points 1, 3, 19 and 20, and the interface of dipmaps/undo.py."""

import itertools
import unittest

from dipmaps.book import Book
from dipmaps.errors import NoBath, TooLong
from dipmaps.undo import taken_out

LETTERS = "abcdefghijkl"
NO_NAMES = ["", "abcdefghi", "Turn", "turn2", "tu rn", "turn\n", " turn", "turn "]
STRANGE = ["wash", "tur", "turns", "a"] + NO_NAMES


def seen(book):
    return book.shades(), book.baths(), [book.table(bath) for bath in book.baths()]


def table_of(book, row):
    table = book.shades()
    for bath in row:
        table = [book.out(bath, shade) for shade in table]
    return table


def blocks_book():
    """turn moves the shades on within blocks of 3, 4 and 5; the others turn one block alone; fall brings two to one."""
    shades = list(LETTERS)
    three, four, five = shades[:3], shades[3:7], shades[7:]
    turned = [block[1:] + block[:1] for block in (three, four, five)]
    return Book(shades, [("turn", turned[0] + turned[1] + turned[2]), ("three", turned[0] + four + five),
                         ("four", three + turned[1] + five), ("five", three + four + turned[2]),
                         ("stay", shades), ("fall", shades[:11] + shades[:1])])


def small_book():
    """turn: a to b, b to c, c to a. swap: a and b change places. fall: b to a."""
    return Book(["c", "a", "b"], [("turn", ["a", "b", "c"]), ("swap", ["c", "b", "a"]), ("fall", ["c", "a", "a"])])


class Undo(unittest.TestCase):

    def check_row(self, book, row, times):
        told = taken_out(book, list(row))
        self.assertEqual(told, (row * times, None))
        self.assertEqual((type(told), type(told[0])), (tuple, list))
        self.assertEqual(table_of(book, row + told[0]), book.shades())
        for fewer in range(times):
            self.assertNotEqual(table_of(book, row * (fewer + 1)), book.shades())

    def check_pair(self, book, row):
        told = taken_out(book, list(row))
        self.assertEqual((type(told), len(told)), (tuple, 2))
        self.assertIsNone(told[0])
        pair = told[1]
        self.assertEqual((type(pair), len(pair)), (tuple, 2))
        self.assertLess(pair[0], pair[1])
        outs = dict(zip(book.shades(), table_of(book, row)))
        self.assertEqual(outs[pair[0]], outs[pair[1]])


class Row(Undo):
    """Point 19: the row's work can be taken out."""

    def test_the_empty_row(self):
        for book in (blocks_book(), small_book(), Book(["b", "a"], []), Book(["a"], []), Book(["a"], [("b", ["a"])])):
            self.check_row(book, [], 0)

    def test_rows_that_leave_each_shade(self):
        for row in (["stay"], ["stay"] * 40, ["three"] * 3, ["four"] * 4, ["five"] * 40, ["three", "stay"] * 3,
                    ["turn"] + ["three"] * 2 + ["four"] * 3 + ["five"] * 4):
            self.check_row(blocks_book(), row, 0)
        self.check_row(small_book(), ["swap", "swap"], 0)
        self.check_row(small_book(), ["turn", "swap", "turn", "swap"], 0)

    def test_a_book_of_one_shade(self):
        book = Book(["ecru"], [("stay", ["ecru"])])
        self.check_row(book, ["stay"], 0)
        self.check_row(book, ["stay"] * 40, 0)

    def test_once(self):
        self.check_row(small_book(), ["swap"], 1)
        self.check_row(small_book(), ["turn", "swap"], 1)
        self.check_row(blocks_book(), ["four", "four"], 1)
        self.check_row(Book(["navy", "ecru"], [("turn", ["ecru", "navy"])]), ["turn"], 1)

    def test_more_than_once(self):
        for row, times in ((["three"], 2), (["four"], 3), (["five"], 4), (["three", "four"], 11), (["five", "three"], 14),
                           (["five", "four"], 19), (["four", "five", "four"], 9), (["turn", "turn"], 29),
                           (["turn", "turn", "turn"], 19), (["turn"] * 20, 2)):
            self.check_row(blocks_book(), row, times)

    def test_59_times(self):
        for row in (["turn"], ["three", "four", "five"], ["stay", "turn", "stay"], ["five", "five", "three", "four"]):
            self.check_row(blocks_book(), row, 59)

    def test_every_number_of_shades_that_turn(self):
        for size in range(1, 13):
            shades = list(LETTERS[:size])
            self.check_row(Book(shades, [("turn", shades[1:] + shades[:1])]), ["turn"], size - 1)
            self.check_row(Book(shades[::-1], [("turn", shades[::-1][1:] + shades[-1:])]), ["turn"], size - 1)

    def test_rows_of_forty_baths(self):
        book = blocks_book()
        self.check_row(book, ["turn"] * 40, 2)
        self.check_row(book, ["turn"] * 39 + ["stay"], 19)
        self.check_row(book, ["turn"] + ["stay"] * 39, 59)
        self.check_row(book, ["stay"] * 39 + ["turn"], 59)

    def test_every_row_of_up_to_six_baths(self):
        book = small_book()
        for length in range(7):
            for baths in itertools.product(["swap", "turn"], repeat=length):
                row = list(baths)
                times = 0
                while table_of(book, row * (times + 1)) != book.shades():
                    times += 1
                self.check_row(book, row, times)

    def test_arguments_by_name(self):
        self.assertEqual(taken_out(book=small_book(), row=["swap"]), (["swap"], None))


class Pair(Undo):
    """Point 20: the row brings two unlike shades to one."""

    def test_one_bath(self):
        self.check_pair(small_book(), ["fall"])
        self.assertEqual(taken_out(small_book(), ["fall"]), (None, ("a", "b")))
        self.assertEqual(taken_out(blocks_book(), ["fall"]), (None, ("a", "l")))

    def test_a_bath_among_others(self):
        for ahead, behind in itertools.product(range(13), repeat=2):
            self.check_pair(blocks_book(), ["turn"] * ahead + ["fall"] + ["turn"] * behind)

    def test_rows_of_forty_baths(self):
        self.check_pair(blocks_book(), ["turn"] * 39 + ["fall"])
        self.check_pair(blocks_book(), ["fall"] + ["turn"] * 39)
        self.check_pair(blocks_book(), ["fall", "turn"] * 20)

    def test_all_to_one(self):
        for size in range(2, 13):
            shades = list(LETTERS[:size])
            self.check_pair(Book(shades[::-1], [("fall", shades[-1:] * size)]), ["fall"])

    def test_every_table_of_four_shades(self):
        for outs in itertools.product("abcd", repeat=4):
            book = Book(["c", "a", "d", "b"], [("dip", list(outs))])
            if len(set(outs)) < 4:
                self.check_pair(book, ["dip"])
                self.check_pair(book, ["dip", "dip"])
            else:
                self.assertIsNone(taken_out(book, ["dip"])[1])


class Refused(Undo):
    """Points 3 and 10: NoBath, and behind it TooLong."""

    def refuse(self, error, row, book=None):
        with self.subTest(row), self.assertRaises(error):
            taken_out(book or small_book(), row)

    def test_too_long(self):
        for row in (["turn"] * 41, ["turn"] * 42, ["turn"] * 100, ["fall"] * 41, ["turn"] * 40 + ["fall"]):
            self.refuse(TooLong, row)
        self.refuse(TooLong, ["stay"] * 41, blocks_book())

    def test_a_strange_bath(self):
        for bath in STRANGE:
            for row in ([bath], [bath, "turn"], ["turn", bath], ["fall", bath], ["turn"] * 39 + [bath]):
                self.refuse(NoBath, row)
        self.refuse(NoBath, ["a"], Book(["a"], []))

    def test_no_bath_goes_ahead_of_too_long(self):
        for bath in STRANGE:
            for row in ([bath] + ["turn"] * 40, ["turn"] * 40 + [bath], ["turn"] * 60 + [bath], [bath] * 41,
                        ["turn"] * 40 + [bath, "turn"]):
                self.refuse(NoBath, row)


class Apart(Undo):
    """Point 1: the row is not changed and not kept, and lists are told anew."""

    ROWS = ([], ["swap"], ["turn"], ["turn"] * 3, ["turn"] * 40, ["fall"], ["turn", "fall"])

    def test_rows_handed_in_stay(self):
        book = small_book()
        before = seen(book)
        for row in self.ROWS:
            handed = list(row)
            taken_out(book, handed)
            self.assertEqual(handed, row)
            self.assertEqual(seen(book), before)

    def test_refused_rows_stay(self):
        book = small_book()
        before = seen(book)
        for row in (["turn", "wash"], ["turn"] * 41, ["wash"] * 41):
            handed = list(row)
            with self.assertRaises((NoBath, TooLong)):
                taken_out(book, handed)
            self.assertEqual(handed, row)
            self.assertEqual(seen(book), before)

    def test_rows_handed_in_are_not_kept(self):
        book = small_book()
        for row in self.ROWS:
            handed = list(row)
            told = taken_out(book, handed)
            kept = (None if told[0] is None else list(told[0]), told[1])
            handed.append("wash")
            handed[0] = "rose"
            self.assertEqual(told, kept)
            self.assertEqual(taken_out(book, list(row)), kept)

    def test_rows_told_are_new(self):
        book = small_book()
        before = seen(book)
        for row in ([], ["swap"], ["turn"], ["turn"] * 3, ["turn"] * 40):
            handed = list(row)
            told = taken_out(book, handed)[0]
            self.assertIsNot(told, handed)
            kept = list(told)
            again = taken_out(book, handed)
            told.append("wash")
            told[0] = "rose"
            self.assertEqual(handed, row)
            self.assertEqual(again, (kept, None))
            self.assertEqual(taken_out(book, handed), (kept, None))
            self.assertEqual(seen(book), before)


if __name__ == "__main__":
    unittest.main()
