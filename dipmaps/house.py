"""The house: cloths that are dipped on days, by tables that may change from day to day."""

from dipmaps.errors import BadName, Full, Known, Late, NoCloth, NoDay, NoDip
from dipmaps.names import good_name

FIRST_DAY = 1
LAST_DAY = 400
MOST_CLOTHS = 50
MOST_DIPS = 1000


def check_day(day):
    if day < FIRST_DAY or day > LAST_DAY:
        # The number is not shown: Python refuses to write out one of some thousand digits.
        raise NoDay("this number is no day")


class House:

    def __init__(self, book):
        self.first_shades = {}
        self.day_now = FIRST_DAY
        # Each as (day, cloth, bath, shade that came out), in the order in which they were done. Nothing is done
        # on a day that is over, so their days never fall, and what came out holds as long as the dip stands.
        self.standing = []
        # The book that holds from a day on, for each day on which a table was changed.
        self.books_from = {FIRST_DAY: book}

    def bring(self, cloth, shade):
        if not good_name(cloth):
            raise BadName(f"this is no name: {cloth!r}")
        if cloth in self.first_shades:
            raise Known(f"the house has a cloth of this name: {cloth!r}")
        self.newest_book().check_shade(shade)
        if len(self.first_shades) >= MOST_CLOTHS:
            raise Full("the house has no room for another cloth")
        self.first_shades[cloth] = shade

    def cloths(self):
        return sorted(self.first_shades)

    def today(self):
        return self.day_now

    def dip(self, cloth, bath, day):
        self.check_cloth(cloth)
        self.newest_book().check_bath(bath)
        self.check_day_to_do(day)
        if len(self.standing) >= MOST_DIPS:
            raise Full("no more dips may stand in the house")
        out = self.book(day).out(bath, self.shade(cloth, day))
        self.standing.append((day, cloth, bath, out))
        self.day_now = day
        return out

    def back(self, day):
        self.check_day_to_do(day)
        dips = self.dips(day)
        if len(dips) == 0:
            raise NoDip("no dip of this day stands")
        # The day is not over, so none was done on a later one, and the day's last dip is the last of all.
        self.standing.pop()
        return dips[-1]

    def change(self, bath, outs, day):
        # Made ahead of the day's checks, since NoBath and BadBook go ahead of NoDay and Late.
        newer = self.newest_book().changed(bath, outs)
        self.check_day_to_do(day)
        if len(self.dips(day)) > 0:
            raise Late("a dip of this day stands")
        self.books_from[day] = newer
        self.day_now = day

    def book(self, day):
        check_day(day)
        return self.books_from[max([start for start in self.books_from if start <= day])]

    def shade(self, cloth, day):
        trail = self.trail(cloth, day)
        if len(trail) == 0:
            return self.first_shades[cloth]
        return trail[-1][2]

    def trail(self, cloth, day):
        self.check_cloth(cloth)
        check_day(day)
        return [(when, bath, out) for when, dipped, bath, out in self.standing if dipped == cloth and when <= day]

    def dips(self, day):
        check_day(day)
        return [(cloth, bath) for when, cloth, bath, out in self.standing if when == day]

    def newest_book(self):
        return self.book(LAST_DAY)

    def check_cloth(self, cloth):
        if cloth not in self.first_shades:
            raise NoCloth(f"the house does not have this cloth: {cloth!r}")

    def check_day_to_do(self, day):
        check_day(day)
        if day < self.day_now:
            raise Late("this day is over")
