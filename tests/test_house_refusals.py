"""Points 3 and 29: the order of refusals of every deed and question, and what stays as it is behind them."""

import itertools
import unittest

from dipmaps.book import Book
from dipmaps.errors import (BadBook, BadName, DipError, Full, Known, Late, NoBath, NoCloth, NoDay, NoDip, NoShade,
                            TooLong)
from dipmaps.house import House

ORDER = [BadName, Known, NoCloth, NoBath, NoShade, BadBook, TooLong, NoDay, Late, NoDip, Full]
DAYS = [1, 2, 3, 4, 5, 6, 7, 399, 400]
NO_DAYS = [0, -1, 401, 10 ** 30]


def small_book():
    """turn: ecru to lime, lime to navy, navy to ecru. dark: all to navy."""
    return Book(["navy", "ecru", "lime"], [("turn", ["ecru", "lime", "navy"]), ("dark", ["navy", "navy", "navy"])])


def told_of(house, days):
    """All that the House tells of some days, but for its own day."""
    told = [house.cloths()]
    for day in days:
        book = house.book(day)
        told.append((day, book.shades(), book.baths(), [book.table(bath) for bath in book.baths()], house.dips(day)))
        told.append([(house.shade(cloth, day), house.trail(cloth, day)) for cloth in house.cloths()])
    return told


def refusal_of(deed):
    """What a deed answers and None, or None and the class it was refused with."""
    try:
        return deed(), None
    except DipError as refusal:
        return None, type(refusal)


def first_due(due):
    return min(due, key=ORDER.index) if due else None


def house_on_day_five(dips=3):
    """Dips on the days 2 and 5, and a change on day 4; dips many of them stand."""
    house = House(small_book())
    house.bring("silk", "ecru")
    house.bring("felt", "navy")
    house.dip("felt", "turn", 2)
    house.change("turn", ["ecru", "ecru", "lime"], 4)
    for number in range(dips - 1):
        house.dip("silk", "turn", 5)
    return house


class Refused(unittest.TestCase):

    def check(self, house, deed, due):
        """The first refusal that is due is told, and all stays as it was."""
        before = (house.today(), told_of(house, DAYS))
        self.assertEqual(refusal_of(deed), (None, first_due(due)))
        self.assertEqual((house.today(), told_of(house, DAYS)), before)


class Deeds(Refused):

    def test_bring(self):
        names = ["c" + one + two for one in "abcdefgh" for two in "abcdef"]
        full = house_on_day_five()
        for cloth in names:
            full.bring(cloth, "ecru")
        for house, full_due in ((house_on_day_five(), []), (full, [Full])):
            for cloth, cloth_due in (("wool", []), ("silk", [Known]), ("", [BadName]), ("Silk", [BadName])):
                for shade, shade_due in (("ecru", []), ("rose", [NoShade]), ("", [NoShade]), ("turn", [NoShade])):
                    due = full_due + cloth_due + shade_due
                    if due:
                        with self.subTest(cloth=cloth, shade=shade, due=due):
                            self.check(house, lambda: house.bring(cloth, shade), due)

    def test_dip(self):
        for house, full_due in ((house_on_day_five(), []), (house_on_day_five(1000), [Full])):
            for cloth, bath, day in itertools.product(["silk", "wool", "", "turn"], ["turn", "wash", "", "silk"],
                                                      [1, 2, 4, 5, 6, 400] + NO_DAYS):
                due = list(full_due)
                due += [NoCloth] if cloth != "silk" else []
                due += [NoBath] if bath != "turn" else []
                due += [NoDay] if day in NO_DAYS else []
                due += [Late] if day < 5 else []
                if due:
                    with self.subTest(cloth=cloth, bath=bath, day=day, due=due):
                        self.check(house, lambda: house.dip(cloth, bath, day), due)

    def test_change(self):
        house = house_on_day_five()
        tables = [["navy"] * 3, [], ["navy"] * 2, ["navy"] * 4, ["navy", "rose", "navy"], ["", "navy", "navy"]]
        for bath, outs, day in itertools.product(["turn", "wash", "", "silk"], tables, [1, 4, 5, 6, 400] + NO_DAYS):
            due = []
            due += [NoBath] if bath != "turn" else []
            due += [BadBook] if outs != tables[0] else []
            due += [NoDay] if day in NO_DAYS else []
            due += [Late] if day <= 5 else []
            if due:
                with self.subTest(bath=bath, outs=outs, day=day, due=due):
                    self.check(house, lambda: house.change(bath, list(outs), day), due)

    def test_back(self):
        house = house_on_day_five()
        for day in [1, 2, 3, 4, 6, 7, 399, 400] + NO_DAYS:
            due = []
            due += [NoDay] if day in NO_DAYS else []
            due += [Late] if day < 5 else []
            due += [NoDip] if day != 2 else []
            with self.subTest(day=day, due=due):
                self.check(house, lambda: house.back(day), due)


class Questions(Refused):

    def test_shade_and_trail(self):
        house = house_on_day_five()
        for cloth, day in itertools.product(["silk", "wool", "", "turn", "Silk"], [1, 5, 400] + NO_DAYS):
            due = []
            due += [NoCloth] if cloth != "silk" else []
            due += [NoDay] if day in NO_DAYS else []
            if due:
                with self.subTest(cloth=cloth, day=day, due=due):
                    self.check(house, lambda: house.shade(cloth, day), due)
                    self.check(house, lambda: house.trail(cloth, day), due)

    def test_book_and_dips(self):
        house = house_on_day_five()
        for day in NO_DAYS:
            self.check(house, lambda: house.book(day), [NoDay])
            self.check(house, lambda: house.dips(day), [NoDay])

    def test_no_question_changes_anything(self):
        house = house_on_day_five()
        before = (house.today(), told_of(house, DAYS))
        for day in range(1, 401):
            told_of(house, [day])
            house.today()
        self.assertEqual((house.today(), told_of(house, DAYS)), before)


class Model:
    """A house reckoned from the document's words: nothing is kept but what was brought, done and changed."""

    def __init__(self, book):
        self.made_of = book
        self.first = {}
        self.done = []
        self.changes = []
        self.day = 1

    def days_book(self, day):
        book = self.made_of
        for when, bath, outs in self.changes:
            if when <= day:
                book = book.changed(bath, outs)
        return book

    def trail(self, cloth, day):
        shade = self.first[cloth]
        trail = []
        for when, dipped, bath in self.done:
            if dipped == cloth and when <= day:
                shade = self.days_book(when).out(bath, shade)
                trail.append((when, bath, shade))
        return trail

    def told_of(self, days):
        cloths = sorted(self.first)
        told = [cloths]
        for day in days:
            book = self.days_book(day)
            dips = [(cloth, bath) for when, cloth, bath in self.done if when == day]
            told.append((day, book.shades(), book.baths(), [book.table(bath) for bath in book.baths()], dips))
            trails = [(cloth, self.trail(cloth, day)) for cloth in cloths]
            told.append([(trail[-1][2] if trail else self.first[cloth], trail) for cloth, trail in trails])
        return told

    def bring(self, cloth, shade):
        due = [Known] if cloth in self.first else []
        due += [NoShade] if shade not in self.made_of.shades() else []
        if not due:
            self.first[cloth] = shade
        return None, first_due(due)

    def dip(self, cloth, bath, day):
        due = [NoCloth] if cloth not in self.first else []
        due += [NoBath] if bath not in self.made_of.baths() else []
        due += [NoDay] if day < 1 or day > 400 else []
        due += [Late] if day < self.day else []
        if due:
            return None, first_due(due)
        self.done.append((day, cloth, bath))
        self.day = max(self.day, day)
        return self.trail(cloth, 400)[-1][2], None

    def back(self, day):
        of_day = [place for place, dip in enumerate(self.done) if dip[0] == day]
        due = [NoDay] if day < 1 or day > 400 else []
        due += [Late] if day < self.day else []
        due += [NoDip] if not of_day else []
        if due:
            return None, first_due(due)
        return self.done.pop(of_day[-1])[1:], None

    def change(self, bath, outs, day):
        shades = self.made_of.shades()
        due = [NoBath] if bath not in self.made_of.baths() else []
        due += [BadBook] if len(outs) != len(shades) or not set(outs) <= set(shades) else []
        due += [NoDay] if day < 1 or day > 400 else []
        due += [Late] if day < self.day or any(dip[0] == day for dip in self.done) else []
        if not due:
            self.changes.append((day, bath, outs))
            self.day = max(self.day, day)
        return None, first_due(due)


DEEDS = [("dip", "silk", "turn", 1), ("dip", "silk", "turn", 2), ("dip", "silk", "dark", 2), ("dip", "felt", "turn", 2),
         ("dip", "felt", "turn", 3), ("dip", "wool", "turn", 2), ("back", 1), ("back", 2), ("back", 3),
         ("change", "turn", ["ecru", "ecru", "lime"], 1), ("change", "turn", ["navy", "navy", "lime"], 2),
         ("change", "turn", ["lime", "navy", "navy"], 3), ("change", "dark", ["lime", "ecru", "ecru"], 2)]


def mixed_deed(number, today):
    """One of many deeds around the house's day, picked by reckoning."""
    day = [today, today, today, today + 1, today, today - 1, today + 2, 0][number // 7 % 8]
    cloth = ["silk", "felt", "wool", "silk", "felt", "yarn"][number // 56 % 6]
    bath = ["turn", "dark", "turn", "wash"][number // 336 % 4]
    shades = ["ecru", "lime", "navy"]
    outs = [shades[number // part % 3] for part in (11, 13, 17)]
    if number // 19 % 9 == 0:
        outs.append("rose")
    deeds = [("dip", cloth, bath, day)] * 4 + [("back", day), ("change", bath, outs, day), ("bring", cloth, outs[-1])]
    return deeds[number % 7]


class Whole(unittest.TestCase):
    """Points 21 to 29 against the model."""

    def both(self):
        house, model = House(small_book()), Model(small_book())
        for each in (house, model):
            each.bring("silk", "ecru")
            each.bring("felt", "navy")
        return house, model

    def do(self, house, model, deed):
        name, parts = deed[0], deed[1:]
        wanted = getattr(model, name)(*parts)
        self.assertEqual(refusal_of(lambda: getattr(house, name)(*parts)), wanted)
        self.assertEqual(house.today(), model.day)
        return wanted[1]

    def test_every_row_of_three_deeds(self):
        for deeds in itertools.product(DEEDS, repeat=3):
            house, model = self.both()
            with self.subTest(deeds):
                for deed in deeds:
                    self.do(house, model, deed)
                self.assertEqual(told_of(house, [1, 2, 3, 4]), model.told_of([1, 2, 3, 4]))

    def test_long_rows_of_mixed_deeds(self):
        number = 1
        answers = set()
        for start in range(60):
            house, model = self.both()
            for place in range(40):
                number = (number * 1103515245 + 12345) % 2 ** 31
                deed = mixed_deed(number // 1024, house.today())
                over = list(range(1, house.today()))
                cloths = house.cloths()
                days_over = [(house.dips(day), house.book(day).table("turn"), house.book(day).table("dark"),
                              [(house.shade(cloth, day), house.trail(cloth, day)) for cloth in cloths]) for day in over]
                answers.add((deed[0], self.do(house, model, deed)))
                # What was told of days that were over, and of cloths that were there, stays as it was.
                self.assertEqual([(house.dips(day), house.book(day).table("turn"), house.book(day).table("dark"),
                                   [(house.shade(cloth, day), house.trail(cloth, day)) for cloth in cloths])
                                  for day in over], days_over)
            days = list(range(1, house.today() + 3)) + [400]
            self.assertEqual(told_of(house, days), model.told_of(days))
        self.assertEqual(answers, {("bring", None), ("bring", Known), ("bring", NoShade), ("dip", None),
                                   ("dip", NoCloth), ("dip", NoBath), ("dip", NoDay), ("dip", Late), ("back", None),
                                   ("back", NoDay), ("back", Late), ("back", NoDip), ("change", None),
                                   ("change", NoBath), ("change", BadBook), ("change", NoDay), ("change", Late)})


class DaysThatAreOver(unittest.TestCase):
    """Point 29: what is told of a day that is over stays as it is."""

    def test_whatever_is_done_later(self):
        house = house_on_day_five()
        house.dip("felt", "dark", 6)
        over = told_of(house, [1, 2, 3, 4, 5])
        for deed in (lambda: house.back(6), lambda: house.change("turn", ["navy"] * 3, 6),
                     lambda: house.change("dark", ["lime"] * 3, 7), lambda: house.dip("silk", "turn", 7),
                     lambda: house.dip("felt", "dark", 7), lambda: house.back(7), lambda: house.dip("silk", "dark", 400),
                     lambda: house.back(400), lambda: house.change("turn", ["ecru"] * 3, 400)):
            self.assertIsNone(refusal_of(deed)[1])
            self.assertEqual(told_of(house, [1, 2, 3, 4, 5]), over)
        house.bring("wool", "lime")
        self.assertEqual([house.dips(day) for day in (2, 5)], [over[3][4], over[9][4]])
        self.assertEqual([house.shade(cloth, 5) for cloth in ("felt", "silk")], [told[0] for told in over[10]])


if __name__ == "__main__":
    unittest.main()
