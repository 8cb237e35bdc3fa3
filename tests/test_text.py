"""Points 1, 3, 8 and 9, and the interface of dipmaps/text.py."""

import itertools
import re
import unittest

from dipmaps.book import Book
from dipmaps.errors import BadText
from dipmaps.text import read_book, write_book

TWELVE = ["lime", "navy", "ecru", "rose", "a", "teal", "zinc", "abcdefgh", "mint", "z", "plum", "gold"]
EIGHT = ["turn", "dark", "x", "wash", "b", "stuvwxyz", "fade", "mix"]
EXAMPLE = "shades ecru navy\nbath dark navy navy\nbath turn navy ecru\n"
KEYWORDS = "shades bath shades\nbath bath shades bath\nbath shades bath bath\n"


def seen(book):
    return book.shades(), book.baths(), [book.table(bath) for bath in book.baths()]


def full_book():
    baths = []
    for turn, bath in enumerate(EIGHT):
        baths.append((bath, [TWELVE[(place * turn + 5) % 12] for place in range(12)]))
    return Book(TWELVE, baths)


def some_books():
    yield Book(["a"], [])
    yield Book(["abcdefgh"], [("stuvwxyz", ["abcdefgh"])])
    yield Book(["ecru"], [(bath, ["ecru"]) for bath in EIGHT])
    yield Book(TWELVE, [])
    yield full_book()
    yield Book(["shades", "bath"], [("shades", ["bath", "bath"]), ("bath", ["bath", "shades"])])
    yield Book(["shades"], [("bath", ["shades"])])
    yield Book(["bath"], [("shades", ["bath"])])
    yield Book(["b", "ab", "abc"], [("ba", ["ab", "ab", "b"]), ("b", ["b", "b", "abc"])])


def is_written(text):
    """Whether the text is one of some book, read off the words of point 8 and without the program."""
    if not re.fullmatch(r"shades( [a-z]{1,8})+\n(bath( [a-z]{1,8})+\n)*", text):
        return False
    rows = [row.split(" ") for row in text.split("\n")[:-1]]
    shades = rows[0][1:]
    baths = [row[1] for row in rows[1:]]
    return (len(shades) <= 12 and shades == sorted(set(shades))
            and len(baths) <= 8 and baths == sorted(set(baths))
            and all(len(row) == 2 + len(shades) and set(row[2:]) <= set(shades) for row in rows[1:]))


class Written(unittest.TestCase):
    """Point 8: the text of a book."""

    def test_the_example_of_the_document(self):
        book = Book(["navy", "ecru"], [("turn", ["ecru", "navy"]), ("dark", ["navy", "navy"])])
        self.assertEqual(write_book(book), EXAMPLE)

    def test_one_shade_no_bath(self):
        self.assertEqual(write_book(Book(["a"], [])), "shades a\n")

    def test_one_shade_eight_baths(self):
        book = Book(["ecru"], [(bath, ["ecru"]) for bath in EIGHT])
        self.assertEqual(write_book(book), "shades ecru\nbath b ecru\nbath dark ecru\nbath fade ecru\n"
                         "bath mix ecru\nbath stuvwxyz ecru\nbath turn ecru\nbath wash ecru\nbath x ecru\n")

    def test_twelve_shades_no_bath(self):
        self.assertEqual(write_book(Book(TWELVE, [])),
                         "shades a abcdefgh ecru gold lime mint navy plum rose teal z zinc\n")

    def test_twelve_shades_eight_baths(self):
        book = full_book()
        rows = write_book(book).split("\n")
        self.assertEqual(len(rows), 10)
        self.assertEqual(rows[0], "shades a abcdefgh ecru gold lime mint navy plum rose teal z zinc")
        # The first bath as handed in brings every shade to the sixth one as handed in.
        self.assertEqual(rows[6], "bath turn" + " teal" * 12)
        for bath, row in zip(sorted(EIGHT), rows[1:9]):
            self.assertEqual(row.split(" "), ["bath", bath] + [book.out(bath, shade) for shade in sorted(TWELVE)])
        self.assertEqual(rows[9], "")

    def test_every_order_of_the_lists(self):
        comes_out = {"ab": "b", "abc": "ab", "b": "b"}
        for shades in itertools.permutations(["ab", "abc", "b"]):
            turn = ("turn", [comes_out[shade] for shade in shades])
            stay = ("stay", list(shades))
            for baths in ([turn, stay], [stay, turn]):
                self.assertEqual(write_book(Book(list(shades), baths)),
                                 "shades ab abc b\nbath stay ab abc b\nbath turn b ab b\n")

    def test_named_like_the_first_words(self):
        book = Book(["shades", "bath"], [("shades", ["bath", "bath"]), ("bath", ["bath", "shades"])])
        self.assertEqual(write_book(book), KEYWORDS)

    def test_a_changed_book(self):
        book = read_book(EXAMPLE)
        self.assertEqual(write_book(book.changed("dark", ["ecru", "navy"])),
                         "shades ecru navy\nbath dark ecru navy\nbath turn navy ecru\n")
        self.assertEqual(write_book(book), EXAMPLE)

    def test_writing_changes_nothing(self):
        for book in some_books():
            before = seen(book)
            self.assertEqual(write_book(book), write_book(book))
            self.assertEqual(seen(book), before)

    def test_argument_by_name(self):
        self.assertEqual(write_book(book=Book(["a"], [])), "shades a\n")


class Read(unittest.TestCase):
    """Point 9: a text that is written so for some book."""

    def test_what_was_written(self):
        for book in some_books():
            text = write_book(book)
            with self.subTest(text):
                again = read_book(text)
                self.assertIsInstance(again, Book)
                self.assertIsNot(again, book)
                self.assertEqual(seen(again), seen(book))
                self.assertEqual(write_book(again), text)

    def test_the_example_of_the_document(self):
        self.assertEqual(seen(read_book(EXAMPLE)), (["ecru", "navy"], ["dark", "turn"],
                                                    [["navy", "navy"], ["navy", "ecru"]]))

    def test_named_like_the_first_words(self):
        self.assertEqual(seen(read_book(KEYWORDS)), (["bath", "shades"], ["bath", "shades"],
                                                     [["shades", "bath"], ["bath", "bath"]]))

    def test_every_table_of_two_shades(self):
        for outs in itertools.product(["ecru", "navy"], repeat=2):
            book = read_book(f"shades ecru navy\nbath dip {outs[0]} {outs[1]}\n")
            self.assertEqual(book.table("dip"), list(outs))

    def test_two_readings_are_apart(self):
        one = read_book(EXAMPLE)
        other = read_book(EXAMPLE)
        self.assertIsNot(one, other)
        one.shades().clear()
        one.table("turn").clear()
        self.assertEqual(seen(other), seen(read_book(EXAMPLE)))
        self.assertEqual(seen(one), seen(other))

    def test_argument_by_name(self):
        self.assertEqual(read_book(text="shades a\n").shades(), ["a"])


class Refused(unittest.TestCase):
    """Point 9: every other text."""

    def refuse(self, *texts):
        for text in texts:
            with self.subTest(text):
                self.assertFalse(is_written(text))
                with self.assertRaises(BadText):
                    read_book(text)

    def test_no_words(self):
        self.refuse("", "\n", " ", " \n", "\n\n", "\n\n\n", "  \n  \n")

    def test_no_last_line_feed(self):
        self.refuse("shades a", EXAMPLE[:-1], KEYWORDS[:-1], write_book(full_book())[:-1])

    def test_every_beginning_of_a_text(self):
        for text in (EXAMPLE, KEYWORDS):
            for length in range(len(text)):
                if not is_written(text[:length]):
                    self.refuse(text[:length])

    def test_empty_rows(self):
        self.refuse("\n" + EXAMPLE, EXAMPLE + "\n", EXAMPLE + "\n\n", "shades a\n\n", "\nshades a\n")
        self.refuse(EXAMPLE.replace("\nbath dark", "\n\nbath dark"), EXAMPLE.replace("\nbath turn", "\n\nbath turn"))
        self.refuse(EXAMPLE + " \n", EXAMPLE + " ", " \n" + EXAMPLE)

    def test_words_behind_the_last_line_feed(self):
        self.refuse(EXAMPLE + "bath", EXAMPLE + "bath wash navy navy", EXAMPLE + "a", "shades a\nbath b a")

    def test_two_blanks(self):
        for text in (EXAMPLE, KEYWORDS):
            for place, sign in enumerate(text):
                if sign == " ":
                    self.refuse(text[:place] + " " + text[place:])

    def test_a_blank_at_the_beginning_or_the_end_of_a_row(self):
        for text in (EXAMPLE, KEYWORDS, "shades a\n"):
            rows = text.split("\n")[:-1]
            for place in range(len(rows)):
                for row in (" " + rows[place], rows[place] + " "):
                    self.refuse("\n".join(rows[:place] + [row] + rows[place + 1:]) + "\n")

    def test_a_row_without_words_behind_its_first(self):
        self.refuse("shades\n", "shades", "shades \n", "shades\nbath\n", "shades\nbath dip\n")
        self.refuse("shades a\nbath\n", "shades a\nbath \n", "shades a\nbath b\n", "shades a\nbath b \n")
        self.refuse(EXAMPLE + "bath\n", EXAMPLE + "bath wash\n", EXAMPLE.replace("bath dark navy navy", "bath"))

    def test_rows_in_another_order(self):
        rows = EXAMPLE.split("\n")[:-1]
        for order in itertools.permutations(rows):
            text = "\n".join(order) + "\n"
            if text != EXAMPLE:
                self.refuse(text)

    def test_shades_out_of_order(self):
        self.refuse("shades navy ecru\n", "shades abc ab\n", "shades a c b\n")
        self.refuse("shades navy ecru\nbath dark navy navy\nbath turn navy ecru\n")

    def test_baths_out_of_order(self):
        self.refuse("shades a\nbath c a\nbath b a\n", "shades a\nbath bb a\nbath b a\n")
        self.refuse("shades a\nbath a a\nbath c a\nbath b a\n")

    def test_another_first_word(self):
        for word in ("shade", "shadess", "bath", "baths", "Shades", "a", "", "ecru"):
            self.refuse(EXAMPLE.replace("shades", word), word + " a\n")
        for word in ("baths", "bat", "shades", "Bath", "dark", "", "dip"):
            self.refuse(EXAMPLE.replace("bath dark", word + " dark"), EXAMPLE.replace("bath turn", word + " turn"))
        self.refuse("ecru navy\nbath dark navy navy\n", "shades ecru navy\ndark navy navy\n")
        self.refuse("shades ecru\nshades navy\n", EXAMPLE + EXAMPLE, EXAMPLE + "shades ecru navy\n")

    def test_texts_that_are_no_names(self):
        for word in ("Ecru", "ecrU", "ecru1", "7", "abcdefghi", "e-cru", "e_cru", "`", "{", "~", "ecru,"):
            self.refuse(f"shades {word}\n", f"shades {word}\nbath dip {word}\n")
            self.refuse(f"shades a {word}\n", f"shades {word} z\n")
            self.refuse(f"shades a\nbath {word} a\n", f"shades a\nbath dip {word}\n")

    def test_two_of_one_name(self):
        self.refuse("shades a a\n", "shades a b b\n", "shades a a\nbath dip a a\n", "shades a a\nbath dip a\n")
        self.refuse("shades a\nbath b a\nbath b a\n", "shades a b\nbath c a a\nbath c b b\n")

    def test_a_table_too_long_or_too_short(self):
        self.refuse("shades a\nbath dip a a\n", "shades a b\nbath dip a\n", "shades a b\nbath dip a b a\n")
        self.refuse("shades a b\nbath dip a\nbath turn b a b\n", "shades a b\nbath dip\n")

    def test_a_text_in_a_table_that_is_no_shade(self):
        self.refuse("shades a\nbath dip b\n", "shades a\nbath dip dip\n", "shades a b\nbath dip a c\n")
        self.refuse("shades a b\nbath dip c b\n", "shades a b\nbath dip bath b\n", "shades a b\nbath dip ab b\n")

    def test_too_many(self):
        self.refuse("shades a b c d e f g h i j k l m\n")
        self.refuse("shades a b c d e f g h i j k l m\nbath dip a b c d e f g h i j k l m\n")
        self.refuse("shades z\n" + "".join(f"bath {bath} z\n" for bath in "abcdefghi"))
        self.assertEqual(len(read_book("shades a b c d e f g h i j k l\n").shades()), 12)
        self.assertEqual(len(read_book("shades z\n" + "".join(f"bath {bath} z\n" for bath in "abcdefgh")).baths()), 8)

    def agree(self, text):
        if is_written(text):
            self.assertEqual(write_book(read_book(text)), text)
        else:
            with self.assertRaises(BadText, msg=repr(text)):
                read_book(text)

    def test_every_change_of_one_sign(self):
        signs = "abhnsz AZ09~`{-\n"
        for text in (EXAMPLE, KEYWORDS, "shades a\n", "shades a\nbath b a\n"):
            for place in range(len(text) + 1):
                self.agree(text[:place] + text[place + 1:])
                for sign in signs:
                    self.agree(text[:place] + sign + text[place:])
                    self.agree(text[:place] + sign + text[place + 1:])

    def test_every_short_row_of_words(self):
        pieces = ["shades", "bath", "a", " ", "\n"]
        for length in range(7):
            for words in itertools.product(pieces, repeat=length):
                self.agree("".join(words))

    def test_every_row_of_a_few_rows(self):
        rows = ["shades a\n", "shades a b\n", "shades b a\n", "bath a a\n", "bath b a\n", "bath a a b\n",
                "bath b b b\n", "bath\n", "\n", "bath a\n"]
        for length in range(5):
            for order in itertools.product(rows, repeat=length):
                self.agree("".join(order))


if __name__ == "__main__":
    unittest.main()
