"""A book: rows written down by number and by day, and those that are taken back."""

from ladingchain.errors import BadForm, DayFalls, DayOver, Full, NamedLater, NoSuch, Struck
from ladingchain.names import LAST_DAY
from ladingchain.rows import check_row, day_fits, row_names
from ladingchain.store import Store

MOST_ROWS = 300
DEEDS_ON_PARCELS = ("stop", "lift", "paid")


def papers_of_parcel(store, parcel):
    bills = [name for name in store.bills if store.bills[name].parcel == parcel]
    notes = [name for name in store.roots if store.papers[name].parcel == parcel]
    return bills + notes


# The store is that of all standing rows, so that papers given out or made
# behind a stop count as named by it.
def all_named(store, row):
    if row[0] in DEEDS_ON_PARCELS:
        return papers_of_parcel(store, row[2])
    return row_names(row)


def share_a_name(names, others):
    return len(set(names) & set(others)) > 0


def check_day(day):
    if not day_fits(day):
        raise BadForm("no day")


class Book:
    # latest is kept beside the rows, so that a row is judged without walking them all.
    def __init__(self, hands):
        self.latest = Store(hands)
        self.hands = list(hands)
        self.written = []
        self.struck = {}

    def last_day(self):
        if len(self.written) == 0:
            return 0
        return self.written[-1][1]

    def check_order_of_days(self, day):
        if day < self.last_day():
            raise DayFalls("a day below that of the last row")

    def write(self, row):
        check_row(row)
        self.check_order_of_days(row[1])
        self.latest.judge(row)
        if len(self.written) >= MOST_ROWS:
            raise Full("too many rows")
        self.latest.perform(row)
        self.written.append(row)
        return len(self.written)

    def rows(self):
        return [(row, number not in self.struck) for number, row in enumerate(self.written, start=1)]

    def named_later(self, number):
        names = all_named(self.latest, self.written[number - 1])
        later = [row for row, stands in self.rows()[number:] if stands]
        return any([share_a_name(names, all_named(self.latest, row)) for row in later])

    def check_strike(self, day, number):
        check_day(day)
        self.check_order_of_days(day)
        if number < 1 or number > len(self.written):
            raise NoSuch("no row has this number")
        if number in self.struck:
            raise Struck("the row was taken back already")
        if self.written[number - 1][1] != day:
            raise DayOver("the row is of another day")
        if self.named_later(number):
            raise NamedLater("a later row names a paper of this one")

    def strike(self, day, number):
        self.check_strike(day, number)
        self.struck[number] = True
        self.latest = self.at(LAST_DAY)
        return self.written[number - 1]

    def at(self, day):
        check_day(day)
        store = Store(self.hands)
        for row, stands in self.rows():
            if stands and row[1] <= day:
                store.perform(row)
        return store
