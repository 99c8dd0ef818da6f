"""Long runs of rows and takings back, drawn by a fixed rule: the whole program beside the second telling of
points 8 to 18 that helper.py walks through the standing rows, with points 19 to 24, 29, 31 and 33 to 35."""

import unittest
from collections import Counter

from helper import HANDS, ORDER, STRANGER, LadingCase, Telling, all_answers, bare, book_of, line_of, standing, tried
from ladingchain.answers import account_of, all_parcels, lying, paper_of, stops_of, who_can, why_not
from ladingchain.book import Book
from ladingchain.desk import desk

PARCELS = ["rice", "salt", "ann"]
# The deeds by how often they are drawn.
DEEDS = ["give"] * 2 + ["sign"] * 3 + ["pass"] * 3 + ["take"] * 2 + ["part"] * 3 + ["join"] * 3 + ["stop"] * 3
DEEDS += ["lift", "paid"]
LETTERS = "abcdefghijklmnopqrstuvwxyz"


class Draw:
    """A rule that draws numbers without chance: the same ones for the same beginning."""

    def __init__(self, beginning):
        self.state = beginning

    def below(self, count):
        self.state = (self.state * 6364136223846793005 + 1442695040888963407) % 2 ** 64
        return (self.state >> 33) % count

    def of(self, values):
        return values[self.below(len(values))]

    def seldom(self, often):
        """True once in so many times."""
        return self.below(often) == 0


def some_hand(draw):
    return STRANGER if draw.seldom(30) else draw.of(HANDS)


def fresh_name(draw, telling):
    known = telling.bills() + telling.notes()
    if known and draw.seldom(15):
        return draw.of(known)
    return draw.of(LETTERS) + draw.of(LETTERS) + draw.of(LETTERS)


def some_paper(draw, telling, papers):
    unspent = [paper for paper in papers if not telling.spender(paper)]
    if draw.seldom(40) or not papers:
        return draw.of(["none", "none/1", "none/3"])
    if draw.seldom(8) or not unspent:
        return draw.of(papers)
    return draw.of(unspent)


def holder_mostly(draw, telling, paper):
    if draw.seldom(6) or paper not in telling.born:
        return some_hand(draw)
    return telling.holder(paper)


def draw_give(draw, telling, day):
    tons = draw.of([1, 7, 12, 60, 100, 5 * 10 ** 8, 10 ** 9])
    kind = draw.of(["named", "order", "order", "holder"])
    return ("give", day, fresh_name(draw, telling), draw.of(PARCELS), draw.of(["sam", "tom", some_hand(draw)]), tons,
            kind, some_hand(draw), 1 + draw.below(3))


def draw_sign(draw, telling, day):
    copies = [paper for paper in telling.papers() if "/" in paper]
    paper = some_paper(draw, telling, copies)
    end = telling.chain(paper)[2] if paper in telling.born else ""
    by = some_hand(draw) if draw.seldom(8) or not end else end
    return ("sign", day, paper if "/" in paper else paper + "/1", by, draw.of(["-", some_hand(draw)]))


def draw_pass(draw, telling, day):
    paper = some_paper(draw, telling, telling.papers())
    by = holder_mostly(draw, telling, paper)
    end = telling.chain(paper)[2] if paper in telling.born else ""
    return ("pass", day, paper, by, end if end and draw.seldom(2) else some_hand(draw))


def draw_take(draw, telling, day):
    broken = [paper for paper in telling.papers() if telling.chain(paper)[1] and not telling.spender(paper)]
    paper = draw.of(broken) if broken and draw.seldom(6) else some_paper(draw, telling, telling.papers())
    return ("take", day, paper, holder_mostly(draw, telling, paper))


def draw_part(draw, telling, day):
    papers = [paper for paper in telling.papers() if telling.why(paper, telling.holder(paper)) in ("", "stopped")]
    paper = some_paper(draw, telling, papers if papers and not draw.seldom(6) else telling.papers())
    left = telling.tons(paper) if paper in telling.born else 9
    pieces = {}
    while left > 1 and len(pieces) < draw.below(5):
        tons = 1 + draw.below(left - 1)
        pieces[fresh_name(draw, telling)] = tons
        left = (telling.tons(paper) if paper in telling.born else 9) - sum(pieces.values())
    last = max(1, left - 1) if draw.seldom(10) else max(1, left)
    pieces[fresh_name(draw, telling)] = last
    return ("part", day, paper, holder_mostly(draw, telling, paper), tuple(pieces.items()))


def draw_join(draw, telling, day):
    notes = [note for note in telling.notes() if draw.seldom(8) or not telling.spender(note)]
    first = draw.of(notes) if notes else "none"
    alike = [note for note in notes if draw.seldom(15) or (
        telling.holder(note) == telling.holder(first)
        and (telling.parcel(note) == telling.parcel(first) or draw.seldom(8)))]
    others = [note for note in alike if note != first and not draw.seldom(3)][:11]
    if not others:
        return draw_part(draw, telling, day)
    return ("join", day, fresh_name(draw, telling), holder_mostly(draw, telling, first), tuple([first] + others))


def draw_on_parcel(deed, draw, telling, day):
    parcel = draw.of(PARCELS[:2] + telling.parcels())
    hands = {"stop": telling.owed(parcel), "lift": telling.stops(parcel), "paid": telling.owed(parcel)}[deed]
    return (deed, day, parcel, draw.of(hands) if hands and not draw.seldom(6) else some_hand(draw))


DRAWN = {"give": draw_give, "sign": draw_sign, "pass": draw_pass, "take": draw_take, "part": draw_part,
         "join": draw_join}


def draw_row(draw, telling, day):
    deed = "give" if not telling.rows else draw.of(DEEDS)
    row = DRAWN[deed](draw, telling, day) if deed in DRAWN else draw_on_parcel(deed, draw, telling, day)
    return row[:-1] if draw.seldom(50) else row


class LongRuns(LadingCase):
    """One book that is written row by row; what must come of each row is told from the rows that stand."""

    def setUp(self):
        self.met = Counter()

    def test_many_days_and_few_takings_back(self):
        for beginning in (1, 2, 3):
            with self.subTest(beginning):
                self.go(beginning, 330, 25, 8)
        self.assert_met()

    def test_long_days_and_many_takings_back(self):
        for beginning in (11, 12, 13):
            with self.subTest(beginning):
                self.go(beginning, 420, 4, 40)
        self.assert_met()

    def test_one_day_alone(self):
        self.go(21, 260, 6, 100000)
        self.assertEqual(self.book.last_day(), 0)

    def test_a_book_that_is_written_full(self):
        self.go(31, 800, 10, 10)
        self.assertEqual(len(self.book.rows()), 300)
        self.assertLess(len(standing(self.book)), 300)
        self.assertGreater(self.met["full"], 20)

    def assert_met(self):
        """The rule has drawn enough of every deed and of every refusal for a run to tell something."""
        for deed in sorted(set(DEEDS)):
            self.assertGreater(self.met[deed], 9, (deed, self.met))
        for word in ORDER + ["back"]:
            if word != "full":
                self.assertGreater(self.met[word], 0, (word, self.met))

    def go(self, beginning, length, back, stay):
        """So many steps; once in `back` a row is taken back, once in `stay` the day is another one."""
        self.draw = Draw(beginning)
        self.book = Book(list(HANDS))
        self.written = []
        self.stands = []
        self.over = {}
        self.lines = []
        self.told = []
        for step in range(length):
            if self.written and self.draw.seldom(back):
                self.step_back()
            else:
                self.step_on(stay)
        self.check_all_days()
        self.check_desk()

    def telling(self, day=100000):
        rows = [row for row, stands in zip(self.written, self.stands) if stands and row[1] <= day]
        return Telling(rows)

    def last_day(self):
        return self.written[-1][1] if self.written else 0

    def step_on(self, stay):
        day = self.last_day()
        if self.draw.seldom(stay):
            day = max(0, day + self.draw.of([1, 1, 2, 5, -1]))
        telling = self.telling()
        row = draw_row(self.draw, telling, day)
        word = telling.refusal(row)
        if word != "form" and day < self.last_day():
            word = "day"
        word = word or ("full" if len(self.written) >= 300 else "")
        self.met[bare(word) or row[0]] += 1
        if not word and day > self.last_day():
            self.end_day()
        self.assertEqual(tried(self.book.write, row), (word, None if word else len(self.written) + 1), row)
        self.lines.append(line_of(row))
        self.told.append("refused: " + word if word else str(len(self.written) + 1))
        if not word:
            self.written.append(row)
            self.stands.append(True)

    def end_day(self):
        self.over[self.last_day()] = all_answers(self.book.at(self.last_day()))

    def refusal_of_strike(self, day, number):
        if day < self.last_day():
            return "day"
        if not 1 <= number <= len(self.written):
            return "unknown"
        if not self.stands[number - 1]:
            return "struck"
        if self.written[number - 1][1] != day:
            return "day over"
        telling = self.telling()
        later = [row for row, stands in list(zip(self.written, self.stands))[number:] if stands]
        names = telling.names(self.written[number - 1])
        return "named later" if any(telling.names(row) & names for row in later) else ""

    def step_back(self):
        number = max(0, len(self.written) - self.draw.below(5))
        if self.draw.seldom(15):
            number = self.draw.below(len(self.written) + 3)
        day = self.last_day() + (self.draw.of([-1, 1]) if self.draw.seldom(20) and self.last_day() else 0)
        word = self.refusal_of_strike(day, number)
        self.met[word or "back"] += 1
        row = self.written[number - 1] if not word else None
        self.assertEqual(tried(self.book.strike, day, number), (word, row), (day, number))
        self.lines.append(f"back {day} {number}")
        self.told.append("refused: " + word if word else f"back {number}")
        if not word:
            self.stands[number - 1] = False
            self.assertEqual(all_answers(self.book.at(day)), self.telling().all_answers())

    def check_all_days(self):
        self.assertEqual(self.book.rows(), list(zip(self.written, self.stands)))
        self.assertEqual(self.book.last_day(), self.last_day())
        for day in range(self.last_day() + 2):
            store = self.book.at(day)
            told = all_answers(store)
            self.assertEqual(told, self.telling(day).all_answers())
            self.check_tons(store)
            if day in self.over:
                self.assertEqual(told, self.over[day])
        self.check_takers(store)
        self.check_no_ton_twice(store)

    def check_no_ton_twice(self, store):
        """All is taken that can be taken: never more of a bill than its tons, however many copies and notes it has."""
        for parcel in all_parcels(store):
            for hand in stops_of(store, parcel):
                store.apply(("lift", self.last_day(), parcel, hand))
        given = {parcel: account_of(store, parcel)[0] for parcel in all_parcels(store)}
        taken = {parcel: account_of(store, parcel)[1] for parcel in all_parcels(store)}
        while who_can(store):
            paper, hand, parcel, tons = who_can(store)[0]
            store.apply(("take", self.last_day(), paper, hand))
            taken[parcel] += tons
            self.assertLessEqual(taken[parcel], given[parcel])
            self.assertEqual(account_of(store, parcel)[:2], (given[parcel], taken[parcel]))
            for other in HANDS:
                self.assertEqual(why_not(store, paper, other), "spent")
        self.check_tons(store)

    def check_tons(self, store):
        for parcel in all_parcels(store):
            given, taken, in_notes, under_bills = account_of(store, parcel)
            self.assertEqual(given, taken + in_notes + under_bills)
            self.assertEqual(lying(store, parcel), given - taken)
            self.assertGreaterEqual(min(taken, in_notes, under_bills), 0)

    def check_takers(self, store):
        """Point 29: just those who are told have their taking written as the next row."""
        takers = who_can(store)
        telling = self.telling()
        for paper in telling.papers():
            for hand in HANDS:
                row = ("take", self.last_day(), paper, hand)
                told = (paper, hand) + paper_of(store, paper)[:2]
                self.assertEqual(told in takers, tried(store.judge, row)[0] == "")
                self.assertEqual(told in takers, telling.refusal(row) == "")
        # Of the rows taken back none is written here, so there is room for one more.
        rows = standing(self.book)
        for paper, hand, parcel, tons in takers[:3] if len(rows) < 300 else []:
            book = book_of(rows)
            self.assertEqual(book.write(("take", self.last_day(), paper, hand)), len(rows) + 1)
            after = book.at(self.last_day())
            self.assertEqual(account_of(after, parcel)[1], account_of(store, parcel)[1] + tons)
            self.assertTrue(paper_of(after, paper)[3])

    def check_desk(self):
        lines = list(self.lines)
        for day in (0, self.last_day() // 2, self.last_day(), 100000):
            telling = self.telling(day)
            for line, told in questions(telling, day):
                lines.append(line)
                self.told.append(told)
        self.assertEqual(desk(list(HANDS), lines), self.told)


def questions(telling, day):
    """Each question that the desk can be asked for what is known at the end of that day, and its answer."""
    yield f"who {day}", ", ".join(" ".join(map(str, taker)) for taker in telling.who()) or "-"
    for paper in telling.papers():
        spent = "spent" if telling.spender(paper) else "unspent"
        yield f"paper {day} {paper}", f"{telling.parcel(paper)} {telling.tons(paper)} {telling.holder(paper)} {spent}"
        yield f"why {day} {paper} ann", telling.why(paper, "ann") or "can"
        if "/" in paper:
            signings, place, end = telling.chain(paper)
            yield f"chain {day} {paper}", f"broken {place}" if place else f"whole {end}"
    for bill in telling.bills():
        fate = telling.fate(bill)
        yield f"bill {day} {bill}", "open" if fate[0] == "open" else " ".join(map(str, fate))
        yield f"heirs {day} {bill}", " ".join(telling.heirs(bill)) or "-"
    for note in telling.notes():
        yield f"roots {day} {note}", " ".join(telling.roots(note))
    for parcel in telling.parcels():
        account = telling.account(parcel)
        yield f"store {day} {parcel}", str(account[0] - account[1])
        yield f"account {day} {parcel}", " ".join(map(str, account))
        yield f"stops {day} {parcel}", " ".join(telling.stops(parcel)) or "-"


if __name__ == "__main__":
    unittest.main()
