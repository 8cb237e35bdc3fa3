"""Point 2: what a name is."""

import unittest

from dipmaps.names import good_name

LETTERS = "abcdefghijklmnopqrstuvwxyz"
SIGNS = ["\n"] + [chr(number) for number in range(ord(" "), ord("~") + 1)]


class GoodName(unittest.TestCase):

    def test_lengths(self):
        self.assertIs(good_name(""), False)
        for length in range(1, 9):
            self.assertIs(good_name("q" * length), True)
        for length in (9, 10, 16, 100):
            self.assertIs(good_name("q" * length), False)

    def test_ordinary_names(self):
        for text in ("a", "z", "az", "za", "ecru", "navy", "abcdefgh", "stuvwxyz"):
            with self.subTest(text):
                self.assertIs(good_name(text), True)

    def test_ordinary_texts_that_are_no_names(self):
        texts = ["A", "Navy", "navY", "NAVY", "1", "navy2", "2navy", " ", "na vy", " navy", "navy ",
                 "\n", "navy\n", "\nnavy", "na\nvy", "_", "na_vy", "_navy", "navy_",
                 "`", "{", "na`vy", "na{vy", "`navy", "navy{", "-", "~", "@", "[",
                 "stuvwxyz\n", "abcdefgh "]
        for text in texts:
            with self.subTest(text):
                self.assertIs(good_name(text), False)

    def test_every_sign_alone_and_at_every_place(self):
        for sign in SIGNS:
            with self.subTest(sign):
                good = sign in LETTERS
                self.assertIs(good_name(sign), good)
                for place in range(8):
                    self.assertIs(good_name("m" * place + sign + "m" * (7 - place)), good)

    def test_argument_by_name(self):
        self.assertIs(good_name(text="ecru"), True)


if __name__ == "__main__":
    unittest.main()
