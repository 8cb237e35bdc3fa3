"""Points 1, 2 and 4 to 7, and the interface of dipmaps/book.py."""

import copy
import itertools
import unittest

from dipmaps.book import Book
from dipmaps.errors import BadBook, NoBath, NoShade

TWELVE = ["lime", "navy", "ecru", "rose", "a", "teal", "zinc", "abcdefgh", "mint", "z", "plum", "gold"]
EIGHT = ["turn", "dark", "x", "wash", "b", "stuvwxyz", "fade", "mix"]
NO_NAMES = ["", "abcdefghi", "Navy", "navy2", "na vy", "navy\n", "na_vy", "`", "{"]


def small_book():
    return Book(["navy", "ecru", "lime"], [("turn", ["ecru", "lime", "navy"]),
                                           ("dark", ["navy", "navy", "lime"])])


def seen(book):
    return book.shades(), book.baths(), [book.table(bath) for bath in book.baths()]


SMALL_SEEN = (["ecru", "lime", "navy"], ["dark", "turn"],
              [["navy", "lime", "navy"], ["lime", "navy", "ecru"]])


class Order(unittest.TestCase):
    """Point 2: the order of names."""

    ORDERED = ["a", "aa", "aaz", "ab", "abc", "abcd", "abd", "b", "ba", "z", "za", "zz"]

    def orders(self):
        mixed = [self.ORDERED[place * 5 % 12] for place in range(12)]
        return [list(self.ORDERED), list(reversed(self.ORDERED)), mixed]

    def test_shades(self):
        for shades in self.orders():
            self.assertEqual(Book(shades, []).shades(), self.ORDERED)

    def test_baths(self):
        for baths in self.orders():
            some = [bath for bath in baths if bath in self.ORDERED[:8]]
            book = Book(["ecru"], [(bath, ["ecru"]) for bath in some])
            self.assertEqual(book.baths(), self.ORDERED[:8])

    def test_table(self):
        for shades in self.orders():
            self.assertEqual(Book(shades, [("stay", shades)]).table("stay"), self.ORDERED)


class Made(unittest.TestCase):
    """Point 4: what a Book is made of."""

    def test_one_shade_no_bath(self):
        self.assertEqual(seen(Book(["a"], [])), (["a"], [], []))

    def test_one_shade_one_bath(self):
        book = Book(["ecru"], [("stay", ["ecru"])])
        self.assertEqual(seen(book), (["ecru"], ["stay"], [["ecru"]]))
        self.assertEqual(book.out("stay", "ecru"), "ecru")

    def test_twelve_shades_no_bath(self):
        self.assertEqual(seen(Book(TWELVE, [])), (sorted(TWELVE), [], []))

    def test_twelve_shades_eight_baths(self):
        baths = []
        for turn, bath in enumerate(EIGHT):
            baths.append((bath, [TWELVE[(place * turn + 5) % 12] for place in range(12)]))
        book = Book(TWELVE, baths)
        self.assertEqual(book.shades(), sorted(TWELVE))
        self.assertEqual(book.baths(), sorted(EIGHT))
        for bath, outs in baths:
            for shade, out in zip(TWELVE, outs):
                self.assertEqual(book.out(bath, shade), out)
            wanted = [outs[TWELVE.index(shade)] for shade in sorted(TWELVE)]
            self.assertEqual(book.table(bath), wanted)

    def test_every_order_and_every_table_of_three_shades(self):
        for shades in itertools.permutations(["ab", "abc", "b"]):
            for outs in itertools.product(["ab", "abc", "b"], repeat=3):
                book = Book(list(shades), [("dip", list(outs))])
                comes_out = dict(zip(shades, outs))
                self.assertEqual(book.shades(), ["ab", "abc", "b"])
                self.assertEqual(book.table("dip"), [comes_out["ab"], comes_out["abc"], comes_out["b"]])
                for shade in shades:
                    self.assertEqual(book.out("dip", shade), comes_out[shade])

    def test_every_order_of_the_baths(self):
        baths = [("b", ["navy", "navy"]), ("ba", ["ecru", "ecru"]), ("c", ["ecru", "navy"])]
        for order in itertools.permutations(baths):
            book = Book(["navy", "ecru"], list(order))
            self.assertEqual(seen(book), (["ecru", "navy"], ["b", "ba", "c"],
                                          [["navy", "navy"], ["ecru", "ecru"], ["navy", "ecru"]]))

    def test_a_shade_and_a_bath_of_one_name(self):
        book = Book(["navy", "ecru"], [("navy", ["ecru", "ecru"]), ("ecru", ["navy", "navy"])])
        self.assertEqual(book.baths(), ["ecru", "navy"])
        self.assertEqual(book.out("navy", "navy"), "ecru")
        self.assertEqual(book.out("ecru", "navy"), "navy")

    def test_two_baths_of_one_table(self):
        outs = ["ecru", "navy"]
        book = Book(["navy", "ecru"], [("one", outs), ("two", outs)])
        self.assertEqual(book.table("one"), ["navy", "ecru"])
        self.assertEqual(book.table("two"), ["navy", "ecru"])

    def test_arguments_by_name(self):
        book = Book(shades=["ecru", "navy"], baths=[("turn", ["navy", "ecru"])])
        self.assertEqual(book.table(bath="turn"), ["navy", "ecru"])
        self.assertEqual(book.out(bath="turn", shade="ecru"), "navy")
        self.assertEqual(book.changed(bath="turn", outs=["ecru", "ecru"]).table("turn"), ["ecru", "ecru"])


class Refused(unittest.TestCase):
    """Point 5: what is no book."""

    def refuse(self, shades, baths):
        with self.subTest(shades=shades, baths=baths), self.assertRaises(BadBook):
            Book(shades, baths)

    def test_no_shade(self):
        self.refuse([], [])
        self.refuse([], [("stay", [])])

    def test_thirteen_shades(self):
        self.refuse(TWELVE + ["last"], [])
        self.refuse(TWELVE + ["last"], [("stay", TWELVE + ["last"])])

    def test_nine_baths(self):
        self.refuse(["ecru"], [(bath, ["ecru"]) for bath in EIGHT + ["last"]])

    def test_a_shade_that_is_no_name(self):
        for text in NO_NAMES:
            self.refuse([text], [])
            self.refuse(["ecru", text], [("turn", [text, "ecru"])])
            self.refuse([text, "ecru"], [("dark", ["ecru", "ecru"])])

    def test_a_bath_that_is_no_name(self):
        for text in NO_NAMES:
            self.refuse(["ecru"], [(text, ["ecru"])])
            self.refuse(["ecru"], [("stay", ["ecru"]), (text, ["ecru"])])
            self.refuse(["ecru"], [(text, ["ecru"]), ("stay", ["ecru"])])

    def test_two_shades_of_one_name(self):
        self.refuse(["ecru", "ecru"], [])
        self.refuse(["ecru", "navy", "ecru"], [("dark", ["navy", "navy", "navy"])])
        self.refuse(["ecru", "navy", "ecru"], [("dark", ["navy", "navy"])])

    def test_two_baths_of_one_name(self):
        self.refuse(["ecru"], [("stay", ["ecru"]), ("stay", ["ecru"])])
        self.refuse(["ecru", "navy"], [("dark", ["navy", "navy"]), ("turn", ["navy", "ecru"]),
                                       ("dark", ["ecru", "navy"])])

    def refuse_outs(self, outs):
        good = ("stay", ["navy", "ecru"])
        self.refuse(["navy", "ecru"], [("dip", outs)])
        self.refuse(["navy", "ecru"], [good, ("dip", outs)])
        self.refuse(["navy", "ecru"], [("dip", outs), good])

    def test_outs_too_long(self):
        self.refuse_outs(["ecru", "ecru", "ecru"])
        self.refuse_outs(["ecru", "navy", "lime"])

    def test_outs_too_short(self):
        self.refuse_outs(["ecru"])
        self.refuse_outs([])

    def test_outs_with_a_text_that_is_no_shade(self):
        for text in ["lime", "dip", "stay", "ecr", "ecrus", "Ecru", "ecru "] + NO_NAMES:
            self.refuse_outs([text, "ecru"])
            self.refuse_outs(["ecru", text])

    def test_lists_of_a_refused_book_stay(self):
        shades = ["navy", "ecru"]
        baths = [("turn", ["ecru", "navy"]), ("dip", ["navy", "lime"])]
        self.refuse(shades, baths)
        self.assertEqual(shades, ["navy", "ecru"])
        self.assertEqual(baths, [("turn", ["ecru", "navy"]), ("dip", ["navy", "lime"])])


class Told(unittest.TestCase):
    """Point 6: what a book tells."""

    def test_what_it_has(self):
        book = small_book()
        self.assertEqual(book.shades(), ["ecru", "lime", "navy"])
        self.assertEqual(book.baths(), ["dark", "turn"])
        self.assertEqual(book.table("dark"), ["navy", "lime", "navy"])
        self.assertEqual(book.table("turn"), ["lime", "navy", "ecru"])
        self.assertEqual([book.out("dark", shade) for shade in book.shades()], ["navy", "lime", "navy"])
        self.assertEqual([book.out("turn", shade) for shade in book.shades()], ["lime", "navy", "ecru"])

    def test_a_bath_it_does_not_have(self):
        book = small_book()
        for bath in ["wash", "tur", "turns", "ecru", "Turn", "turn "] + NO_NAMES:
            with self.subTest(bath):
                with self.assertRaises(NoBath):
                    book.table(bath)
                with self.assertRaises(NoBath):
                    book.out(bath, "ecru")

    def test_a_shade_it_does_not_have(self):
        book = small_book()
        for shade in ["rose", "ecr", "ecrus", "turn", "Ecru", "ecru "] + NO_NAMES:
            with self.subTest(shade), self.assertRaises(NoShade):
                book.out("turn", shade)

    def test_no_bath_goes_ahead_of_no_shade(self):
        book = small_book()
        for bath, shade in [("wash", "rose"), ("", ""), ("ecru", "turn"), ("wash", "Ecru")]:
            with self.subTest(bath=bath, shade=shade), self.assertRaises(NoBath):
                book.out(bath, shade)

    def test_a_book_without_baths(self):
        book = Book(["ecru"], [])
        with self.assertRaises(NoBath):
            book.table("ecru")
        with self.assertRaises(NoBath):
            book.out("ecru", "ecru")

    def test_a_refused_question_changes_nothing(self):
        book = small_book()
        for question in (lambda: book.table("wash"), lambda: book.out("wash", "ecru"),
                         lambda: book.out("turn", "rose")):
            with self.assertRaises((NoBath, NoShade)):
                question()
            self.assertEqual(seen(book), SMALL_SEEN)


class Changed(unittest.TestCase):
    """Point 7: another book with another table."""

    def test_one_table_alone_differs(self):
        book = small_book()
        other = book.changed("turn", ["ecru", "ecru", "lime"])
        self.assertIsInstance(other, Book)
        self.assertIsNot(other, book)
        self.assertEqual(seen(other), (["ecru", "lime", "navy"], ["dark", "turn"],
                                       [["navy", "lime", "navy"], ["ecru", "ecru", "lime"]]))
        self.assertEqual(other.out("turn", "navy"), "lime")
        self.assertEqual(other.out("dark", "ecru"), "navy")
        self.assertEqual(seen(book), SMALL_SEEN)

    def test_every_bath_of_a_full_book(self):
        book = Book(TWELVE, [(bath, TWELVE) for bath in EIGHT])
        before = seen(book)
        outs = list(reversed(sorted(TWELVE)))
        for bath in EIGHT:
            other = book.changed(bath, outs)
            for each in EIGHT:
                self.assertEqual(other.table(each), outs if each == bath else sorted(TWELVE))
        self.assertEqual(seen(book), before)

    def test_the_same_table(self):
        book = small_book()
        other = book.changed("dark", book.table("dark"))
        self.assertIsNot(other, book)
        self.assertEqual(seen(other), SMALL_SEEN)

    def test_changed_again(self):
        book = small_book()
        first = book.changed("turn", ["ecru", "ecru", "ecru"])
        second = first.changed("dark", ["lime", "lime", "lime"])
        third = second.changed("turn", ["navy", "navy", "navy"])
        self.assertEqual(seen(book), SMALL_SEEN)
        self.assertEqual(seen(first)[2], [["navy", "lime", "navy"], ["ecru"] * 3])
        self.assertEqual(seen(second)[2], [["lime"] * 3, ["ecru"] * 3])
        self.assertEqual(seen(third)[2], [["lime"] * 3, ["navy"] * 3])

    def refuse(self, error, bath, outs):
        book = small_book()
        handed = list(outs)
        with self.subTest(bath=bath, outs=outs):
            with self.assertRaises(error):
                book.changed(bath, handed)
            self.assertEqual(handed, outs)
            self.assertEqual(seen(book), SMALL_SEEN)

    def test_a_bath_it_does_not_have(self):
        for bath in ["wash", "ecru", "Turn", "turn "] + NO_NAMES:
            self.refuse(NoBath, bath, ["ecru", "lime", "navy"])

    def test_bad_tables(self):
        for bath in ["turn", "dark"]:
            self.refuse(BadBook, bath, ["ecru", "lime", "navy", "navy"])
            self.refuse(BadBook, bath, ["ecru", "lime"])
            self.refuse(BadBook, bath, [])
            for text in ["rose", "turn", "Ecru"] + NO_NAMES:
                self.refuse(BadBook, bath, [text, "lime", "navy"])
                self.refuse(BadBook, bath, ["ecru", "lime", text])

    def test_no_bath_goes_ahead_of_bad_book(self):
        for bath in ["wash", "", "Turn"]:
            self.refuse(NoBath, bath, ["ecru", "lime", "navy", "navy"])
            self.refuse(NoBath, bath, ["ecru", "lime"])
            self.refuse(NoBath, bath, ["ecru", "lime", "rose"])

    def test_a_book_without_baths(self):
        with self.assertRaises(NoBath):
            Book(["ecru"], []).changed("stay", ["ecru"])


class Apart(unittest.TestCase):
    """Point 1: lists are not changed, not kept and told anew."""

    def lists(self):
        return (["navy", "ecru", "lime"],
                [("turn", ["ecru", "lime", "navy"]), ("dark", ["navy", "navy", "lime"])])

    def spoil(self, shades, baths):
        for bath in baths:
            bath[1][0] = "lime"
            bath[1].append("rose")
        baths.pop()
        baths.append(("wash", ["ecru"]))
        shades[0] = "rose"
        shades.reverse()
        shades.pop()

    def test_lists_handed_in_stay(self):
        shades, baths = self.lists()
        before = copy.deepcopy((shades, baths))
        book = Book(shades, baths)
        seen(book)
        book.out("turn", "navy")
        book.changed("turn", ["ecru", "ecru", "ecru"])
        self.assertEqual((shades, baths), before)

    def test_lists_handed_in_are_not_kept(self):
        shades, baths = self.lists()
        book = Book(shades, baths)
        self.spoil(shades, baths)
        self.assertEqual(seen(book), SMALL_SEEN)
        self.assertEqual(book.out("turn", "navy"), "ecru")

    def test_one_list_handed_in_for_all(self):
        shades = ["navy", "ecru"]
        book = Book(shades, [("one", shades), ("two", shades)])
        shades.clear()
        self.assertEqual(seen(book), (["ecru", "navy"], ["one", "two"], [["ecru", "navy"], ["ecru", "navy"]]))

    def test_the_new_table_stays_and_is_not_kept(self):
        outs = ["ecru", "ecru", "lime"]
        book = small_book()
        other = book.changed("turn", outs)
        self.assertEqual(outs, ["ecru", "ecru", "lime"])
        outs[0] = "navy"
        outs.append("navy")
        self.assertEqual(other.table("turn"), ["ecru", "ecru", "lime"])
        self.assertEqual(seen(book), SMALL_SEEN)

    def test_lists_told_are_new(self):
        small = small_book()
        for book in (small, small.changed("turn", small.table("turn"))):
            for tell in (book.shades, book.baths, lambda: book.table("turn"), lambda: book.table("dark")):
                told = tell()
                self.assertIsInstance(told, list)
                self.assertIsNot(tell(), told)
                told[0] = "rose"
                told.reverse()
                told.append("wash")
                self.assertEqual(seen(book), SMALL_SEEN)
                self.assertEqual(book.out("dark", "ecru"), "navy")

    def test_lists_told_by_one_book_do_not_reach_its_changed_one(self):
        book = small_book()
        other = book.changed("turn", ["ecru", "ecru", "lime"])
        book.table("dark").clear()
        other.table("dark").clear()
        other.shades().clear()
        self.assertEqual(seen(book), SMALL_SEEN)
        self.assertEqual(other.table("dark"), SMALL_SEEN[2][0])

    def test_two_books_of_the_same_lists(self):
        shades, baths = self.lists()
        one = Book(shades, baths)
        other = Book(shades, baths)
        self.assertIsNot(one, other)
        one.changed("turn", ["ecru", "ecru", "ecru"])
        one.table("turn").clear()
        one.shades().clear()
        self.assertEqual(seen(other), SMALL_SEEN)
        self.spoil(shades, baths)
        self.assertEqual(seen(one), SMALL_SEEN)
        self.assertEqual(seen(other), SMALL_SEEN)

    def test_books_of_other_lists_do_not_mix(self):
        one = small_book()
        other = Book(["rose"], [("wash", ["rose"])])
        self.assertEqual(seen(one), SMALL_SEEN)
        self.assertEqual(seen(other), (["rose"], ["wash"], [["rose"]]))


if __name__ == "__main__":
    unittest.main()
