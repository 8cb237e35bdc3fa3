"""Points 1, 17 and 18, and the interface of dipmaps/merge.py."""

import itertools
import unittest

from dipmaps.book import Book
from dipmaps.merge import all_to_one

LETTERS = "abcdefghijkl"


def seen(book):
    return book.shades(), book.baths(), [book.table(bath) for bath in book.baths()]


def end_of(book, row, shade):
    for bath in row:
        shade = book.out(bath, shade)
    return shade


def can_be_one(book):
    """Whether some row brings all shades to one: every set of shades that rows lead to is walked."""
    found = {frozenset(book.shades())}
    newest = list(found)
    while newest:
        shades = newest.pop()
        if len(shades) == 1:
            return True
        for bath in book.baths():
            outs = frozenset(book.out(bath, shade) for shade in shades)
            if outs not in found:
                found.add(outs)
                newest.append(outs)
    return False


def turn_and_push(shades):
    """turn moves every shade on by one; push moves the first alone to the next one."""
    return Book(shades, [("turn", shades[1:] + shades[:1]), ("push", shades[1:2] + shades[1:])])


def mixed_books(most_shades, count):
    """Books of many kinds, their tables mixed by reckoning."""
    for seed in range(count):
        size = 2 + seed % (most_shades - 1)
        shades = list(LETTERS[:size])
        baths = []
        for place in range(1 + seed // 7 % 4):
            step = 1 + (seed * 5 + place * 3) % size
            outs = [shades[(number + step) % size] for number in range(size)]
            outs[(seed + place) % size] = shades[(seed * seed + 3 * place) % size]
            if seed % 3 == 0:
                outs = [shades[(seed * number * number + place) % size] for number in range(size)]
            baths.append(("dip" + LETTERS[place], outs))
        yield Book(shades, baths)


class Merge(unittest.TestCase):

    def check_row(self, book):
        told = all_to_one(book)
        self.assertEqual((type(told), len(told)), (tuple, 2))
        row, shade = told
        self.assertEqual((type(row), type(shade)), (list, str))
        self.assertLessEqual(len(row), 1000)
        self.assertLessEqual(set(row), set(book.baths()))
        self.assertIn(shade, book.shades())
        self.assertEqual({end_of(book, row, each) for each in book.shades()}, {shade})

    def check_pairs(self, book):
        told = all_to_one(book)
        self.assertEqual((type(told), len(told)), (tuple, 2))
        self.assertIsNone(told[0])
        pairs = told[1]
        self.assertIs(type(pairs), list)
        self.assertGreaterEqual(len(pairs), 1)
        self.assertEqual(len(set(pairs)), len(pairs))
        for pair in pairs:
            self.assertEqual((type(pair), len(pair)), (tuple, 2))
            self.assertLess(pair[0], pair[1])
            self.assertLessEqual(set(pair), set(book.shades()))
            for bath in book.baths():
                self.assertIn(tuple(sorted(book.out(bath, shade) for shade in pair)), pairs)

    def check(self, book):
        with self.subTest(seen(book)):
            if can_be_one(book):
                self.check_row(book)
            else:
                self.check_pairs(book)


class Row(Merge):
    """Point 17: some row brings all shades to one."""

    def test_one_shade(self):
        self.check_row(Book(["ecru"], []))
        self.assertEqual(all_to_one(Book(["ecru"], [])), ([], "ecru"))
        self.check_row(Book(["ecru"], [("stay", ["ecru"])]))
        self.check_row(Book(["ecru"], [("a", ["ecru"]), ("b", ["ecru"]), ("ecru", ["ecru"])]))

    def test_one_bath_brings_all_to_one(self):
        for size in range(2, 13):
            shades = list(LETTERS[:size])
            for shade in shades:
                self.check_row(Book(shades, [("fall", [shade] * size), ("stay", shades)]))

    def test_step_by_step(self):
        for size in range(2, 13):
            shades = list(LETTERS[:size])
            self.check_row(Book(shades, [("step", shades[1:] + shades[-1:])]))
            self.check_row(Book(shades, [("step", shades[:1] + shades[:-1]), ("stay", shades)]))

    def test_turn_and_push(self):
        for size in range(2, 13):
            self.check_row(turn_and_push(list(LETTERS[:size])))

    def test_turn_and_push_whatever_the_shades_are_called(self):
        for factor, shift in itertools.product((1, 5, 7, 11), range(12)):
            self.check_row(turn_and_push([LETTERS[(factor * place + shift) % 12] for place in range(12)]))

    def test_turn_and_push_beside_baths_that_do_little(self):
        shades = list(LETTERS)
        swapped = [shades[1], shades[0]] + shades[2:]
        back = shades[-1:] + shades[:-1]
        self.check_row(Book(shades, [("z", shades[1:] + shades[:1]), ("y", shades[:11] + shades[:1]),
                                     ("a", shades), ("b", swapped), ("c", back), ("d", shades)]))

    def test_shades_that_two_baths_bring_together_by_turns(self):
        self.check_row(Book(["a", "b", "c", "d"], [("one", ["b", "b", "d", "d"]), ("two", ["c", "a", "c", "a"])]))

    def test_the_name_of_a_shade_for_a_bath(self):
        self.check_row(Book(["ecru", "navy"], [("navy", ["ecru", "ecru"])]))

    def test_arguments_by_name(self):
        self.assertEqual(all_to_one(book=Book(["navy", "ecru"], [("dark", ["navy"] * 2)])), (["dark"], "navy"))


class Pairs(Merge):
    """Point 18: no row does so."""

    def test_books_without_baths(self):
        for size in range(2, 13):
            self.check_pairs(Book(list(reversed(LETTERS[:size])), []))
        self.assertEqual(all_to_one(Book(["navy", "ecru"], [])), (None, [("ecru", "navy")]))

    def test_every_bath_brings_each_shade_out_once(self):
        for size in range(2, 13):
            shades = list(LETTERS[:size])
            turned = shades[1:] + shades[:1]
            swapped = [shades[1], shades[0]] + shades[2:]
            for baths in ([("stay", shades)], [("turn", turned)], [("turn", turned), ("swap", swapped)],
                          [("back", shades[::-1]), ("swap", swapped), ("stay", shades)]):
                self.check_pairs(Book(shades, baths))

    def test_two_halves_that_stay_apart(self):
        for size in range(2, 13):
            shades = list(LETTERS[:size])
            for cut in range(1, size):
                left, right = shades[:cut], shades[cut:]
                self.check_pairs(Book(shades, [("fall", left[:1] * len(left) + right[-1:] * len(right)),
                                               ("turn", left[1:] + left[:1] + right[1:] + right[:1])]))

    def test_two_halves_that_change_places(self):
        shades = list(LETTERS)
        over = [shades[6]] * 6 + [shades[0]] * 6
        turn = shades[1:6] + shades[:1] + shades[7:] + shades[6:7]
        self.check_pairs(Book(shades, [("over", over), ("turn", turn)]))
        self.check_pairs(Book(shades[::-1], [("over", over[::-1])]))

    def test_one_shade_stays_apart_from_all_others(self):
        book = Book(["d", "c", "b", "a"], [("swap", ["a", "a", "a", "d"]), ("stay", ["d", "d", "d", "a"])])
        self.check_pairs(book)

    def test_names_that_begin_with_one_another(self):
        self.check_pairs(Book(["b", "ab", "abc", "a"], [("turn", ["ab", "abc", "a", "b"])]))


class Every(Merge):
    """Points 17 and 18 against walking every set of shades that rows lead to."""

    def test_every_book_of_two_shades_and_two_baths(self):
        tables = [list(outs) for outs in itertools.product("ab", repeat=2)]
        for one, other in itertools.product(tables, tables):
            self.check(Book(["b", "a"], [("one", one), ("other", other)]))

    def test_every_book_of_three_shades_and_two_baths(self):
        tables = [list(outs) for outs in itertools.product(["b", "ab", "abc"], repeat=3)]
        for one, other in itertools.product(tables, tables):
            self.check(Book(["b", "ab", "abc"], [("one", one), ("other", other)]))

    def test_every_book_of_four_shades_and_one_bath(self):
        for outs in itertools.product("abcd", repeat=4):
            self.check(Book(["c", "a", "d", "b"], [("dip", list(outs))]))

    def test_mixed_books(self):
        found = [0, 0]
        for book in mixed_books(12, 400):
            self.check(book)
            found[can_be_one(book)] += 1
        self.assertGreater(min(found), 50)


class Apart(Merge):
    """Point 1: lists are told anew, and a Book stays as it is."""

    def spoil(self, told):
        told.reverse()
        told.append("rose")
        told[0] = "wash"

    def test_lists_told_are_new(self):
        for book in (turn_and_push(list("abcd")), Book(["a"], []), Book(["a"], [("stay", ["a"])]),
                     Book(["b", "a"], [("fall", ["a", "a"])])):
            before = seen(book)
            row, shade = all_to_one(book)
            kept = list(row)
            again = all_to_one(book)
            self.spoil(row)
            self.assertEqual(again, (kept, shade))
            self.assertEqual(all_to_one(book), (kept, shade))
            self.assertEqual(seen(book), before)

    def test_pairs_told_are_new(self):
        for book in (Book(["a", "b", "c"], []), Book(["a", "b", "c"], [("turn", ["b", "c", "a"])])):
            before = seen(book)
            told = all_to_one(book)[1]
            kept = list(told)
            again = all_to_one(book)
            self.spoil(told)
            self.assertEqual(again, (None, kept))
            self.assertEqual(all_to_one(book), (None, kept))
            self.assertEqual(seen(book), before)

    def test_one_book_does_not_reach_another(self):
        book = Book(["a", "b"], [("dip", ["b", "b"])])
        self.check_row(book)
        self.check_pairs(book.changed("dip", ["b", "a"]))
        self.check_row(book)
        self.check_pairs(Book(["a", "b"], []))
        self.check_row(book)


if __name__ == "__main__":
    unittest.main()
