"""Points 1, 2 and 21 to 28 of the house, and the interface of dipmaps/house.py."""

import unittest

from dipmaps.book import Book
from dipmaps.errors import BadBook, BadName, Full, Known, Late, NoBath, NoCloth, NoDay, NoDip, NoShade
from dipmaps.house import House

NO_NAMES = ["", "abcdefghi", "Silk", "silk2", "si lk", "silk\n", "si_lk", "`", "{", " silk", "silk "]
NO_DAYS = [0, -1, 401, 10 ** 30, -400, 402, -10 ** 30, 10 ** 5000]
FIFTY = ["c" + one + two for one in "zyxwvutsrq" for two in "abcde"]


def small_book():
    """turn: ecru to lime, lime to navy, navy to ecru. dark: all to navy."""
    return Book(["navy", "ecru", "lime"], [("turn", ["ecru", "lime", "navy"]), ("dark", ["navy", "navy", "navy"])])


def seen(book):
    return book.shades(), book.baths(), [book.table(bath) for bath in book.baths()]


def small_house():
    """Two cloths, both ecru at first."""
    house = House(small_book())
    house.bring("silk", "ecru")
    house.bring("felt", "ecru")
    return house


class Cloths(unittest.TestCase):
    """Point 21: cloths are brought and told."""

    def test_none_at_first(self):
        self.assertEqual(House(small_book()).cloths(), [])
        self.assertEqual(House(Book(["a"], [])).cloths(), [])

    def test_brought_in_any_order(self):
        names = ["silk", "a", "felt", "ab", "zz", "abcdefgh", "b", "abc", "aa"]
        for order in (names, names[::-1], names[4:] + names[:4]):
            house = House(small_book())
            for cloth in order:
                self.assertIsNone(house.bring(cloth, "ecru"))
            self.assertEqual(house.cloths(), ["a", "aa", "ab", "abc", "abcdefgh", "b", "felt", "silk", "zz"])

    def test_first_shades(self):
        house = House(small_book())
        for cloth, shade in (("a", "navy"), ("b", "ecru"), ("c", "lime"), ("d", "navy")):
            self.assertIsNone(house.bring(cloth, shade))
            for day in (1, 2, 400):
                self.assertEqual(house.shade(cloth, day), shade)
                self.assertEqual(house.trail(cloth, day), [])

    def test_a_cloth_of_a_shades_or_a_baths_name(self):
        house = House(small_book())
        for cloth in ("turn", "ecru", "navy", "dark"):
            self.assertIsNone(house.bring(cloth, "ecru"))
        self.assertEqual(house.cloths(), ["dark", "ecru", "navy", "turn"])
        self.assertEqual(house.dip("turn", "turn", 1), "lime")
        self.assertEqual(house.dip("navy", "turn", 1), "lime")
        self.assertEqual(house.dip("ecru", "dark", 1), "navy")
        self.assertEqual(house.shade("dark", 1), "ecru")
        self.assertEqual(house.dips(1), [("turn", "turn"), ("navy", "turn"), ("ecru", "dark")])

    def test_brought_at_any_time(self):
        house = small_house()
        house.dip("silk", "turn", 7)
        house.change("turn", ["navy", "navy", "navy"], 9)
        self.assertIsNone(house.bring("wool", "lime"))
        self.assertEqual(house.today(), 9)
        for day in (1, 7, 9, 400):
            self.assertEqual(house.shade("wool", day), "lime")
        house.dip("wool", "turn", 400)
        self.assertIsNone(house.bring("yarn", "ecru"))
        self.assertEqual(house.cloths(), ["felt", "silk", "wool", "yarn"])

    def test_bad_name(self):
        for cloth in NO_NAMES:
            with self.subTest(cloth), self.assertRaises(BadName):
                small_house().bring(cloth, "ecru")

    def test_known(self):
        house = small_house()
        for shade in ("ecru", "navy"):
            for cloth in ("silk", "felt"):
                with self.assertRaises(Known):
                    house.bring(cloth, shade)
        self.assertEqual(house.shade("silk", 1), "ecru")
        house.dip("silk", "turn", 3)
        with self.assertRaises(Known):
            house.bring("silk", "ecru")

    def test_no_shade(self):
        for shade in ["rose", "turn", "silk", "ecr", "ecrus"] + NO_NAMES:
            with self.subTest(shade), self.assertRaises(NoShade):
                small_house().bring("wool", shade)

    def test_fifty_cloths(self):
        house = House(small_book())
        for place, cloth in enumerate(FIFTY):
            self.assertEqual(len(house.cloths()), place)
            self.assertIsNone(house.bring(cloth, "lime"))
        self.assertEqual(house.cloths(), sorted(FIFTY))
        for cloth in ("wool", "a", "ecru"):
            with self.assertRaises(Full):
                house.bring(cloth, "ecru")
        self.assertEqual(house.cloths(), sorted(FIFTY))
        for cloth in FIFTY:
            self.assertEqual(house.dip(cloth, "turn", 1), "navy")


class Days(unittest.TestCase):
    """Point 22: days, and the house's own day."""

    def test_no_days(self):
        house = small_house()
        house.dip("silk", "turn", 1)
        for day in NO_DAYS:
            for deed in (lambda: house.dip("silk", "turn", day), lambda: house.back(day),
                         lambda: house.change("turn", ["navy", "navy", "navy"], day), lambda: house.book(day),
                         lambda: house.shade("silk", day), lambda: house.trail("silk", day), lambda: house.dips(day)):
                with self.assertRaises(NoDay):
                    deed()
                self.assertEqual(house.today(), 1)

    def test_the_first_and_the_last_day(self):
        for day in (1, 400):
            house = small_house()
            self.assertIsNone(house.change("dark", ["lime", "lime", "lime"], day))
            self.assertEqual(house.dip("silk", "dark", day), "lime")
            self.assertEqual(house.dips(day), [("silk", "dark")])
            self.assertEqual(house.trail("silk", day), [(day, "dark", "lime")])
            self.assertEqual(house.shade("silk", day), "lime")
            self.assertEqual(house.book(day).table("dark"), ["lime"] * 3)
            self.assertEqual(house.back(day), ("silk", "dark"))
            self.assertEqual(house.today(), day)

    def test_one_at_first(self):
        self.assertEqual(House(small_book()).today(), 1)
        self.assertEqual(small_house().today(), 1)

    def test_a_dip_moves_it(self):
        house = small_house()
        for day in (1, 2, 2, 3, 17, 399, 400, 400):
            house.dip("silk", "turn", day)
            self.assertEqual(house.today(), day)

    def test_a_change_moves_it(self):
        house = small_house()
        for day in (1, 2, 2, 3, 17, 399, 400, 400):
            house.change("turn", ["navy", "navy", "navy"], day)
            self.assertEqual(house.today(), day)

    def test_a_change_to_the_same_table_moves_it(self):
        house = small_house()
        house.change("dark", ["navy", "navy", "navy"], 6)
        self.assertEqual(house.today(), 6)

    def test_nothing_else_moves_it(self):
        house = small_house()
        house.dip("silk", "turn", 5)
        house.bring("wool", "navy")
        self.assertEqual(house.today(), 5)
        for day in (1, 4, 5, 6, 400):
            house.book(day)
            house.shade("silk", day)
            house.trail("silk", day)
            house.dips(day)
            house.cloths()
            self.assertEqual(house.today(), 5)
        house.back(5)
        self.assertEqual(house.today(), 5)

    def test_no_refused_deed_moves_it(self):
        house = small_house()
        house.dip("silk", "turn", 5)
        for deed in (lambda: house.dip("wool", "turn", 9), lambda: house.dip("silk", "wash", 9),
                     lambda: house.dip("silk", "turn", 4), lambda: house.dip("silk", "turn", 401),
                     lambda: house.back(9), lambda: house.back(4), lambda: house.change("wash", ["navy"] * 3, 9),
                     lambda: house.change("turn", ["navy"] * 2, 9), lambda: house.change("turn", ["navy"] * 3, 5),
                     lambda: house.change("turn", ["navy"] * 3, 4), lambda: house.change("turn", ["navy"] * 3, 401),
                     lambda: house.bring("silk", "ecru"), lambda: house.bring("", "ecru")):
            with self.assertRaises((NoCloth, NoBath, Late, NoDay, NoDip, BadBook, Known, BadName)):
                deed()
            self.assertEqual(house.today(), 5)

    def test_a_full_house_does_not_move_it(self):
        house = small_house()
        for number in range(1000):
            house.dip("silk", "turn", 1 + number // 500)
        with self.assertRaises(Full):
            house.dip("silk", "turn", 8)
        self.assertEqual(house.today(), 2)


class Dips(unittest.TestCase):
    """Points 23 and 28: dips and what is told of a day's dips."""

    def test_what_comes_out(self):
        house = small_house()
        self.assertEqual(house.dip("silk", "turn", 1), "lime")
        self.assertEqual(house.dip("silk", "turn", 1), "navy")
        self.assertEqual(house.dip("felt", "dark", 1), "navy")
        self.assertEqual(house.dip("silk", "turn", 2), "ecru")
        self.assertEqual(house.dip("felt", "turn", 4), "ecru")
        self.assertEqual(house.dip("silk", "dark", 4), "navy")

    def test_by_the_table_of_the_day(self):
        house = small_house()
        self.assertEqual(house.dip("silk", "dark", 2), "navy")
        house.change("dark", ["lime", "ecru", "lime"], 3)
        self.assertEqual(house.dip("felt", "dark", 3), "lime")
        self.assertEqual(house.dip("felt", "dark", 3), "ecru")
        self.assertEqual(house.dip("silk", "dark", 4), "lime")
        house.change("dark", ["ecru", "ecru", "ecru"], 5)
        house.change("dark", ["navy", "navy", "ecru"], 5)
        self.assertEqual(house.dip("silk", "dark", 5), "navy")
        self.assertEqual(house.dip("felt", "turn", 5), "lime")

    def test_late(self):
        house = small_house()
        house.dip("silk", "turn", 5)
        for day in (1, 2, 4):
            with self.assertRaises(Late):
                house.dip("felt", "turn", day)
        self.assertEqual(house.dip("felt", "turn", 5), "lime")
        house.change("dark", ["ecru"] * 3, 8)
        for day in (5, 7):
            with self.assertRaises(Late):
                house.dip("felt", "turn", day)
        self.assertEqual(house.dip("felt", "turn", 8), "navy")

    def test_late_behind_a_dip_that_was_taken_back(self):
        house = small_house()
        house.dip("silk", "turn", 5)
        house.back(5)
        with self.assertRaises(Late):
            house.dip("silk", "turn", 4)
        self.assertEqual(house.dip("silk", "turn", 5), "lime")

    def test_strange_cloths_and_baths(self):
        house = small_house()
        for text in ["wool", "turn", "ecru", "sil", "silks"] + NO_NAMES:
            with self.subTest(text), self.assertRaises(NoCloth):
                house.dip(text, "turn", 1)
        for text in ["wash", "silk", "ecru", "tur", "turns"] + NO_NAMES:
            with self.subTest(text), self.assertRaises(NoBath):
                house.dip("silk", text, 1)

    def test_a_book_without_baths(self):
        house = House(Book(["ecru"], []))
        house.bring("silk", "ecru")
        with self.assertRaises(NoBath):
            house.dip("silk", "ecru", 1)
        with self.assertRaises(NoBath):
            house.change("ecru", ["ecru"], 1)
        self.assertEqual(house.shade("silk", 400), "ecru")

    def test_a_thousand_dips(self):
        house = small_house()
        shades = ["ecru", "lime", "navy"]
        for number in range(1, 1001):
            self.assertEqual(house.dip("silk", "turn", 1 + number // 4), shades[number % 3])
        for cloth, day in (("silk", 251), ("felt", 251), ("silk", 252), ("felt", 400)):
            with self.assertRaises(Full):
                house.dip(cloth, "turn", day)
        self.assertEqual(len(house.trail("silk", 400)), 1000)
        self.assertEqual(sum(len(house.dips(day)) for day in range(1, 401)), 1000)

    def test_a_thousand_dips_on_one_day(self):
        house = small_house()
        for number in range(500):
            house.dip("silk", "turn", 9)
            house.dip("felt", "dark", 9)
        with self.assertRaises(Full):
            house.dip("silk", "turn", 9)
        self.assertEqual(house.dips(9), [("silk", "turn"), ("felt", "dark")] * 500)
        for number in range(500):
            self.assertEqual(house.back(9), ("felt", "dark"))
            self.assertEqual(house.back(9), ("silk", "turn"))
        self.assertEqual(house.dips(9), [])

    def test_a_thousand_dips_that_stand(self):
        house = small_house()
        for number in range(990):
            house.dip("silk", "turn", 1)
        for number in range(40):
            house.dip("felt", "turn", 2)
            house.back(2)
        for number in range(10):
            house.dip("felt", "turn", 2)
        with self.assertRaises(Full):
            house.dip("felt", "turn", 2)
        house.back(2)
        house.back(2)
        self.assertEqual(house.dip("silk", "turn", 3), "lime")
        self.assertEqual(house.dip("silk", "turn", 3), "navy")
        with self.assertRaises(Full):
            house.dip("silk", "turn", 3)

    def test_told_of_a_day(self):
        house = small_house()
        for cloth, bath, day in (("silk", "turn", 2), ("felt", "dark", 2), ("silk", "dark", 2), ("silk", "dark", 2),
                                 ("felt", "turn", 5), ("silk", "turn", 400)):
            house.dip(cloth, bath, day)
        wanted = {2: [("silk", "turn"), ("felt", "dark"), ("silk", "dark"), ("silk", "dark")],
                  5: [("felt", "turn")], 400: [("silk", "turn")]}
        for day in range(1, 401):
            self.assertEqual(house.dips(day), wanted.get(day, []))

    def test_told_without_those_taken_back(self):
        house = small_house()
        house.dip("silk", "turn", 2)
        house.dip("felt", "dark", 2)
        house.dip("silk", "dark", 2)
        house.back(2)
        house.back(2)
        house.dip("silk", "turn", 2)
        self.assertEqual(house.dips(2), [("silk", "turn"), ("silk", "turn")])
        house.back(2)
        house.back(2)
        self.assertEqual(house.dips(2), [])


class Back(unittest.TestCase):
    """Point 24: dips taken back."""

    def test_the_last_one_first(self):
        house = small_house()
        house.dip("felt", "turn", 1)
        deeds = [("silk", "turn"), ("felt", "dark"), ("silk", "dark"), ("felt", "turn"), ("silk", "turn")]
        for cloth, bath in deeds:
            house.dip(cloth, bath, 3)
        while deeds:
            self.assertEqual(house.dips(3), deeds)
            self.assertEqual(house.back(3), deeds.pop())
        self.assertEqual(house.dips(3), [])
        with self.assertRaises(NoDip):
            house.back(3)
        self.assertEqual(house.dips(1), [("felt", "turn")])
        self.assertEqual(house.trail("felt", 400), [(1, "turn", "lime")])
        self.assertEqual(house.trail("silk", 400), [])

    def test_late(self):
        house = small_house()
        house.dip("silk", "turn", 3)
        house.dip("felt", "turn", 5)
        for day in (1, 2, 3, 4):
            with self.assertRaises(Late):
                house.back(day)
        house.back(5)
        for day in (3, 4):
            with self.assertRaises(Late):
                house.back(day)
        self.assertEqual(house.dips(3), [("silk", "turn")])

    def test_late_behind_a_change_on_a_later_day(self):
        house = small_house()
        house.dip("silk", "turn", 3)
        house.change("dark", ["ecru"] * 3, 4)
        with self.assertRaises(Late):
            house.back(3)
        with self.assertRaises(NoDip):
            house.back(4)

    def test_no_dip(self):
        house = small_house()
        for day in (1, 2, 400):
            with self.assertRaises(NoDip):
                house.back(day)
        house.dip("silk", "turn", 3)
        for day in (4, 5, 399, 400):
            with self.assertRaises(NoDip):
                house.back(day)
        self.assertEqual(house.back(3), ("silk", "turn"))
        for day in (3, 4, 400):
            with self.assertRaises(NoDip):
                house.back(day)
        self.assertEqual(house.today(), 3)

    def test_as_if_it_had_never_been_done(self):
        house = small_house()
        house.dip("silk", "turn", 3)
        house.dip("silk", "turn", 3)
        house.dip("felt", "dark", 3)
        house.back(3)
        house.back(3)
        self.assertEqual(house.shade("silk", 3), "lime")
        self.assertEqual(house.shade("felt", 3), "ecru")
        self.assertEqual(house.trail("silk", 3), [(3, "turn", "lime")])
        self.assertEqual(house.trail("felt", 3), [])
        self.assertEqual(house.dip("felt", "turn", 3), "lime")
        self.assertEqual(house.dip("silk", "turn", 4), "navy")

    def test_a_dip_done_again_by_another_table(self):
        house = small_house()
        house.change("dark", ["lime"] * 3, 3)
        self.assertEqual(house.dip("silk", "dark", 3), "lime")
        house.back(3)
        house.change("dark", ["ecru", "navy", "ecru"], 3)
        self.assertEqual(house.dip("silk", "dark", 3), "ecru")
        self.assertEqual(house.trail("silk", 3), [(3, "dark", "ecru")])


class Change(unittest.TestCase):
    """Points 25 and 26: tables changed, and a day's book."""

    def tables(self, house, day):
        book = house.book(day)
        self.assertIsInstance(book, Book)
        self.assertEqual((book.shades(), book.baths()), (["ecru", "lime", "navy"], ["dark", "turn"]))
        return book.table("dark"), book.table("turn")

    DARK, TURN = ["navy", "navy", "navy"], ["lime", "navy", "ecru"]
    ONE, TWO, THREE = ["ecru", "ecru", "lime"], ["lime", "lime", "ecru"], ["navy", "ecru", "ecru"]

    def test_no_change(self):
        for day in (1, 2, 399, 400):
            self.assertEqual(self.tables(small_house(), day), (self.DARK, self.TURN))

    def test_ahead_of_at_and_behind_each_change(self):
        house = small_house()
        self.assertIsNone(house.change("dark", list(self.ONE), 3))
        self.assertIsNone(house.change("turn", list(self.TWO), 7))
        self.assertIsNone(house.change("dark", list(self.THREE), 20))
        for day in range(1, 401):
            dark = self.DARK if day < 3 else self.ONE if day < 20 else self.THREE
            turn = self.TURN if day < 7 else self.TWO
            self.assertEqual(self.tables(house, day), (dark, turn))

    def test_on_the_first_and_on_the_last_day(self):
        house = small_house()
        house.change("dark", self.ONE, 1)
        self.assertEqual([self.tables(house, day) for day in (1, 2, 400)], [(self.ONE, self.TURN)] * 3)
        house.change("dark", self.TWO, 400)
        self.assertEqual([self.tables(house, day)[0] for day in (1, 2, 399, 400)], [self.ONE] * 3 + [self.TWO])

    def test_two_changes_of_one_bath_on_one_day(self):
        house = small_house()
        house.change("dark", self.ONE, 3)
        house.change("dark", self.TWO, 3)
        for day in (1, 2):
            self.assertEqual(self.tables(house, day), (self.DARK, self.TURN))
        for day in (3, 4, 400):
            self.assertEqual(self.tables(house, day), (self.TWO, self.TURN))
        self.assertEqual(house.dip("silk", "dark", 3), "lime")

    def test_changes_of_two_baths_on_one_day(self):
        for day in (1, 3):
            house = small_house()
            house.change("dark", self.ONE, day)
            house.change("turn", self.THREE, day)
            house.change("dark", self.TWO, day)
            for later in (day, day + 1, 400):
                self.assertEqual(self.tables(house, later), (self.TWO, self.THREE))

    def test_changed_back(self):
        house = small_house()
        house.change("dark", self.ONE, 3)
        house.change("dark", self.DARK, 5)
        self.assertEqual([self.tables(house, day)[0] for day in (2, 3, 4, 5)],
                         [self.DARK, self.ONE, self.ONE, self.DARK])

    def test_behind_a_dip_of_the_day(self):
        house = small_house()
        house.dip("silk", "turn", 3)
        for bath in ("turn", "dark"):
            with self.assertRaises(Late):
                house.change(bath, self.ONE, 3)
        self.assertEqual(self.tables(house, 3), (self.DARK, self.TURN))
        house.dip("felt", "turn", 3)
        house.back(3)
        with self.assertRaises(Late):
            house.change("dark", self.ONE, 3)

    def test_behind_all_dips_of_the_day_were_taken_back(self):
        house = small_house()
        house.dip("silk", "turn", 3)
        house.dip("silk", "turn", 3)
        house.back(3)
        house.back(3)
        self.assertIsNone(house.change("turn", self.ONE, 3))
        self.assertEqual(self.tables(house, 3), (self.DARK, self.ONE))
        self.assertEqual(self.tables(house, 2), (self.DARK, self.TURN))
        self.assertEqual(house.dip("silk", "turn", 3), "ecru")

    def test_on_a_later_day(self):
        house = small_house()
        house.dip("silk", "turn", 3)
        self.assertIsNone(house.change("turn", self.ONE, 4))
        self.assertEqual(house.today(), 4)
        self.assertEqual(house.trail("silk", 400), [(3, "turn", "lime")])
        self.assertEqual(house.dip("silk", "turn", 4), "ecru")

    def test_on_a_day_that_is_over(self):
        house = small_house()
        house.change("dark", self.ONE, 3)
        house.dip("silk", "turn", 5)
        for day in (1, 3, 4):
            with self.assertRaises(Late):
                house.change("dark", self.TWO, day)
        house.back(5)
        with self.assertRaises(Late):
            house.change("dark", self.TWO, 4)
        self.assertEqual(self.tables(house, 4), (self.ONE, self.TURN))

    def test_strange_baths_and_bad_tables(self):
        house = small_house()
        for bath in ["wash", "silk", "ecru", "tur"] + NO_NAMES:
            with self.subTest(bath), self.assertRaises(NoBath):
                house.change(bath, self.ONE, 1)
        for outs in ([], ["ecru"] * 2, ["ecru"] * 4, ["ecru", "ecru", "rose"], ["turn", "ecru", "ecru"],
                     ["silk", "ecru", "ecru"], ["ecru", "", "ecru"], ["Ecru", "ecru", "ecru"]):
            with self.subTest(outs), self.assertRaises(BadBook):
                house.change("turn", outs, 1)
        self.assertEqual(self.tables(house, 1), (self.DARK, self.TURN))

    def test_the_first_book_stays(self):
        book = small_book()
        before = seen(book)
        house = House(book)
        early = house.book(5)
        house.change("dark", self.ONE, 1)
        house.change("turn", self.TWO, 4)
        self.assertEqual(seen(book), before)
        self.assertEqual(seen(early), before)

    def test_a_told_book_stays(self):
        house = small_house()
        house.change("dark", self.ONE, 3)
        told = house.book(3)
        house.change("dark", self.TWO, 3)
        house.change("turn", self.THREE, 4)
        self.assertEqual((told.table("dark"), told.table("turn")), (self.ONE, self.TURN))


class Trail(unittest.TestCase):
    """Point 27: a cloth's shade and trail at the end of a day."""

    def house(self):
        house = small_house()
        house.dip("silk", "turn", 3)
        house.dip("felt", "dark", 3)
        house.dip("silk", "turn", 3)
        house.change("turn", ["ecru", "ecru", "lime"], 6)
        house.dip("silk", "turn", 6)
        house.change("turn", ["navy", "navy", "navy"], 8)
        house.change("dark", ["ecru", "ecru", "ecru"], 8)
        house.dip("felt", "turn", 9)
        house.dip("silk", "dark", 9)
        return house

    SILK = [(3, "turn", "lime"), (3, "turn", "navy"), (6, "turn", "lime"), (9, "dark", "ecru")]
    FELT = [(3, "dark", "navy"), (9, "turn", "navy")]

    def test_of_every_day(self):
        house = self.house()
        for day in range(1, 401):
            for cloth, dips in (("silk", self.SILK), ("felt", self.FELT)):
                trail = [dip for dip in dips if dip[0] <= day]
                self.assertEqual(house.trail(cloth, day), trail)
                self.assertEqual(house.shade(cloth, day), trail[-1][2] if trail else "ecru")
        self.assertEqual(house.today(), 9)

    def test_days_later_than_the_houses_day(self):
        house = self.house()
        house.change("turn", ["lime", "lime", "lime"], 10)
        self.assertEqual(house.trail("silk", 400), self.SILK)
        house.dip("silk", "turn", 11)
        self.assertEqual(house.trail("silk", 400), self.SILK + [(11, "turn", "lime")])
        self.assertEqual(house.shade("silk", 400), "lime")
        self.assertEqual(house.trail("silk", 10), self.SILK)

    def test_dips_that_leave_the_shade(self):
        house = small_house()
        house.dip("silk", "dark", 1)
        house.dip("silk", "dark", 1)
        self.assertEqual(house.trail("silk", 1), [(1, "dark", "navy"), (1, "dark", "navy")])

    def test_strange_cloths(self):
        house = self.house()
        for cloth in ["wool", "turn", "ecru", "sil", "silks"] + NO_NAMES:
            for day in (1, 3, 9, 400):
                with self.subTest(cloth=cloth, day=day):
                    with self.assertRaises(NoCloth):
                        house.shade(cloth, day)
                    with self.assertRaises(NoCloth):
                        house.trail(cloth, day)


class Kinds(unittest.TestCase):
    """The interface: arguments and kinds."""

    def test_arguments_by_name(self):
        house = House(book=small_book())
        self.assertIsNone(house.bring(cloth="silk", shade="ecru"))
        self.assertIsNone(house.change(bath="dark", outs=["lime"] * 3, day=2))
        self.assertEqual(house.dip(cloth="silk", bath="dark", day=2), "lime")
        self.assertEqual(house.book(day=2).table("dark"), ["lime"] * 3)
        self.assertEqual(house.shade(cloth="silk", day=2), "lime")
        self.assertEqual(house.trail(cloth="silk", day=2), [(2, "dark", "lime")])
        self.assertEqual(house.dips(day=2), [("silk", "dark")])
        self.assertEqual(house.back(day=2), ("silk", "dark"))

    def test_kinds(self):
        house = small_house()
        self.assertIs(type(house.dip("silk", "turn", 2)), str)
        self.assertEqual([type(told) for told in (house.cloths(), house.trail("silk", 2), house.dips(2))], [list] * 3)
        self.assertEqual([type(part) for part in house.trail("silk", 2)[0]], [int, str, str])
        self.assertEqual([type(told[0]) for told in (house.trail("silk", 2), house.dips(2))], [tuple] * 2)
        self.assertEqual((type(house.today()), type(house.shade("silk", 2))), (int, str))
        self.assertIs(type(house.back(2)), tuple)


class Apart(unittest.TestCase):
    """Point 1: lists are not changed, not kept and told anew, and Houses are apart."""

    def all_told(self, house):
        return (house.today(), house.cloths(), [seen(house.book(day)) for day in (1, 2, 3, 400)],
                [house.dips(day) for day in (1, 2, 3, 400)],
                [(house.shade(cloth, day), house.trail(cloth, day)) for cloth in house.cloths() for day in (1, 2, 400)])

    def busy_house(self):
        house = small_house()
        house.dip("silk", "turn", 1)
        house.change("turn", ["navy", "ecru", "lime"], 2)
        house.dip("felt", "turn", 2)
        house.dip("silk", "dark", 2)
        return house

    def test_lists_told_are_new(self):
        house = self.busy_house()
        before = self.all_told(house)
        for tell in (house.cloths, lambda: house.trail("silk", 2), lambda: house.trail("silk", 1),
                     lambda: house.dips(2), lambda: house.dips(3), lambda: House(small_book()).cloths(),
                     lambda: house.book(2).table("turn"), lambda: house.book(1).shades(), house.book(2).baths):
            told = tell()
            kept = list(told)
            self.assertIsNot(tell(), told)
            told.append("wash")
            told.reverse()
            told[0] = "rose"
            self.assertEqual(tell(), kept)
            self.assertEqual(self.all_told(house), before)

    def test_a_table_handed_in_stays_and_is_not_kept(self):
        house = small_house()
        outs = ["navy", "ecru", "lime"]
        house.change("turn", outs, 2)
        self.assertEqual(outs, ["navy", "ecru", "lime"])
        before = self.all_told(house)
        outs[0] = "ecru"
        outs.append("rose")
        self.assertEqual(self.all_told(house), before)
        self.assertEqual(house.dip("silk", "turn", 2), "navy")

    def test_a_refused_table_stays(self):
        house = self.busy_house()
        for bath, outs, day in (("turn", ["navy"] * 2, 3), ("turn", ["rose"] * 3, 3), ("wash", ["navy"] * 3, 3),
                                ("turn", ["navy"] * 3, 1), ("turn", ["navy"] * 3, 2), ("turn", ["navy"] * 3, 0)):
            handed = list(outs)
            with self.assertRaises((BadBook, NoBath, Late, NoDay)):
                house.change(bath, handed, day)
            self.assertEqual(handed, outs)

    def test_two_houses_of_one_book(self):
        book = small_book()
        one, other = House(book), House(book)
        self.assertIsNot(one, other)
        before = self.all_told(other)
        one.bring("silk", "ecru")
        one.change("dark", ["lime"] * 3, 2)
        one.dip("silk", "dark", 3)
        self.assertEqual(self.all_told(other), before)
        self.assertEqual(other.bring("silk", "navy"), None)
        self.assertEqual(other.dip("silk", "dark", 1), "navy")
        self.assertEqual(one.trail("silk", 400), [(3, "dark", "lime")])
        self.assertEqual(one.back(3), ("silk", "dark"))
        self.assertEqual(other.dips(1), [("silk", "dark")])
        self.assertEqual((one.today(), other.today()), (3, 1))

    def test_a_house_of_another_houses_book(self):
        one = self.busy_house()
        before = self.all_told(one)
        other = House(one.book(2))
        other.change("dark", ["lime"] * 3, 1)
        self.assertEqual(other.book(1).table("turn"), ["navy", "ecru", "lime"])
        self.assertEqual(self.all_told(one), before)


if __name__ == "__main__":
    unittest.main()
