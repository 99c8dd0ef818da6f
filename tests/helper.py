"""What several tests need: all answers of a store at once, refusals tried in every way, and a plain second
telling of points 8 to 18, which keeps no store: it looks through the list of standing rows for each answer."""

import unittest

from ladingchain import answers, errors
from ladingchain.book import Book
from ladingchain.desk import desk
from ladingchain.errors import BadForm, LadingError
from ladingchain.names import read_paper
from ladingchain.rows import check_row
from ladingchain.store import Store

HANDS = ["ann", "bob", "cid", "sam", "tom"]
STRANGER = "zoe"
BIG = 10 ** 9

# The words of point 35, in the order of points 19 and 23, beside the names of the classes.
WORDS = {
    "form": "BadForm", "day": "DayFalls", "unknown": "NoSuch", "name": "NameTaken", "spent": "Spent",
    "broken": "Broken", "not yours": "NotYours", "not to order": "NotOrder", "stopped": "Stopped",
    "tons": "WrongTons", "parcel": "OtherParcel", "not owed": "NotOwed", "stop stands": "StopStands",
    "no stop": "NoStop", "full": "Full", "struck": "Struck", "day over": "DayOver", "named later": "NamedLater",
}
ORDER = list(WORDS)


def bare(word):
    """A refusal's word without the number that stands behind `broken`."""
    return "broken" if word.startswith("broken ") else word


def word_of(error):
    """A refusal's word, found by its class alone and by no class above it."""
    names = [word for word, name in WORDS.items() if type(error) is getattr(errors, name)]
    assert len(names) == 1, repr(error)
    return f"broken {error.place}" if names == ["broken"] else names[0]


def tried(call, *given):
    """The word of the refusal of this call, or the empty text and what it told."""
    try:
        return "", call(*given)
    except LadingError as error:
        return word_of(error), None


def line_of(row):
    """A row as a line for the desk, also where it is of bad form."""
    words = []
    for value in row:
        values = value if isinstance(value, tuple) else (value,)
        words += [":".join(map(str, inner)) if isinstance(inner, tuple) else str(inner) for inner in values]
    return " ".join(words)


def store_of(rows, hands=HANDS):
    store = Store(list(hands))
    for row in rows:
        store.apply(row)
    return store


def book_of(rows, hands=HANDS):
    book = Book(list(hands))
    for row in rows:
        book.write(row)
    return book


def standing(book):
    return [row for row, stands in book.rows() if stands]


def all_answers(store, hands=HANDS):
    """Every answer that a store can give for what it knows, by what was asked."""
    papers = answers.all_papers(store)
    told = {("papers",): papers, ("parcels",): answers.all_parcels(store), ("who",): answers.who_can(store)}
    for paper in papers:
        told["paper", paper] = answers.paper_of(store, paper)
        for hand in hands:
            told["why", paper, hand] = answers.why_not(store, paper, hand)
        if "/" in paper:
            bill = paper.split("/")[0]
            told["chain", paper] = answers.chain_of(store, paper)
            told["fate", bill] = answers.fate_of(store, bill)
            told["heirs", bill] = answers.heirs_of(store, bill)
        else:
            told["roots", paper] = answers.roots_of(store, paper)
    for parcel in answers.all_parcels(store):
        told["account", parcel] = answers.account_of(store, parcel)
        told["lying", parcel] = answers.lying(store, parcel)
        told["stops", parcel] = answers.stops_of(store, parcel)
        told["owed", parcel] = answers.owed_of(store, parcel)
    return told


def all_of_book(book, hands=HANDS):
    """Everything that a book tells: its rows, its last day, and all answers for the end of each of its days."""
    days = sorted({row[1] for row, stands in book.rows()} | {0, 100000})
    return book.rows(), book.last_day(), {day: all_answers(book.at(day), hands) for day in days}


def changed(before, after):
    """The answers that are new or other than before; none is ever lost."""
    assert set(before) <= set(after)
    return {asked: after[asked] for asked in after if asked not in before or before[asked] != after[asked]}


class Telling:
    def __init__(self, rows, hands=HANDS):
        self.rows = list(rows)
        self.hands = list(hands)
        self.born = {}
        self.kept = {}
        for place, row in enumerate(self.rows):
            for paper, parcel, tons, holder, start in self.births(row):
                self.born[paper] = (place, parcel, tons, holder, start)

    def births(self, row):
        if row[0] == "give":
            start = "-" if row[6] == "holder" else row[7]
            return [(f"{row[2]}/{number + 1}", row[3], row[5], row[7], start) for number in range(row[8])]
        if row[0] == "part":
            return [(name, self.parcel(row[2]), tons, row[3], "-") for name, tons in row[4]]
        if row[0] == "join":
            return [(row[2], self.parcel(row[4][0]), sum(self.tons(note) for note in row[4]), row[3], "-")]
        return []

    def once(self, key, find):
        if key not in self.kept:
            self.kept[key] = find()
        return self.kept[key]

    def papers(self):
        return sorted(self.born)

    def bills(self):
        return sorted({paper.split("/")[0] for paper in self.born if "/" in paper})

    def notes(self):
        return sorted(paper for paper in self.born if "/" not in paper)

    def parcels(self):
        return sorted({row[3] for row in self.rows if row[0] == "give"})

    def parcel(self, paper):
        return self.born[paper][1]

    def tons(self, paper):
        return self.born[paper][2]

    def holder(self, paper, place=None):
        """Who held the paper ahead of the row at that place; who holds it now."""
        passed = [row[4] for row in self.rows[:place] if row[0] == "pass" and row[2] == paper]
        return passed[-1] if passed else self.born[paper][3]

    def signings(self, paper):
        signed = [(place, row) for place, row in enumerate(self.rows) if row[0] == "sign" and row[2] == paper]
        return [(row[3], row[4], self.holder(paper, place)) for place, row in signed]

    def chain(self, paper):
        return self.once(("chain", paper), lambda: self.find_chain(paper))

    def find_chain(self, paper):
        signings = self.signings(paper)
        receivers = [self.born[paper][4]] + [to for by, to, holder in signings]
        bad = [
            number for number, (by, to, holder) in enumerate(signings, start=1)
            if by != (holder if receivers[number - 1] == "-" else receivers[number - 1])
        ]
        if bad:
            return signings, bad[0], ""
        return signings, 0, self.holder(paper) if receivers[-1] == "-" else receivers[-1]

    def spender(self, paper):
        """The row by which the paper was spent, if there is one."""
        return self.once(("spender", paper), lambda: self.find_spender(paper))

    def find_spender(self, paper):
        for row in self.rows:
            if row[0] == "join" and paper in row[4]:
                return row
            if row[0] in ("take", "part") and read_paper(row[2])[0] == paper.split("/")[0]:
                return row
        return None

    def shown_by(self, paper, hand):
        """The refusals that are due where the hand shows the paper."""
        place, end = self.chain(paper)[1:]
        due = ["spent"] if self.spender(paper) else []
        due += [f"broken {place}"] if place else []
        return due + (["not yours"] if {self.holder(paper), end} != {hand} else [])

    def why(self, paper, hand):
        due = self.shown_by(paper, hand) + (["stopped"] if self.stops(self.parcel(paper)) else [])
        return due[0] if due else ""

    def fate(self, bill):
        row = self.spender(f"{bill}/1")
        if not row:
            return "open", 0, "", 0
        return {"take": "taken", "part": "parted"}[row[0]], read_paper(row[2])[1], row[3], row[1]

    def roots(self, note):
        row = self.rows[self.born[note][0]]
        if row[0] == "part":
            return [row[2].split("/")[0]] if "/" in row[2] else self.roots(row[2])
        return sorted({bill for joined in row[4] for bill in self.roots(joined)})

    def heirs(self, bill):
        return [note for note in self.notes() if not self.spender(note) and bill in self.roots(note)]

    def account(self, parcel):
        given = sum(row[5] for row in self.rows if row[0] == "give" and row[3] == parcel)
        takings = [row[2] for row in self.rows if row[0] == "take"]
        taken = sum(self.tons(paper) for paper in takings if self.parcel(paper) == parcel)
        unspent = [paper for paper in self.born if self.parcel(paper) == parcel and not self.spender(paper)]
        in_notes = sum(self.tons(paper) for paper in unspent if "/" not in paper)
        return given, taken, in_notes, sum(self.tons(paper) for paper in unspent if paper.endswith("/1"))

    def last_deeds(self, parcel, deeds):
        """Of each hand the last of these deeds for the parcel; a bill is a deed of its sender."""
        last = {}
        for row in self.rows:
            if row[0] in deeds and (row[3] if row[0] == "give" else row[2]) == parcel:
                last[row[4] if row[0] == "give" else row[3]] = row[0]
        return last

    def stops(self, parcel):
        last = self.once(("stops", parcel), lambda: self.last_deeds(parcel, ("stop", "lift", "paid")))
        return sorted(hand for hand, deed in last.items() if deed == "stop")

    def owed(self, parcel):
        last = self.once(("owed", parcel), lambda: self.last_deeds(parcel, ("give", "paid")))
        return sorted(hand for hand, deed in last.items() if deed == "give")

    def who(self):
        asked = [(paper, hand) for paper in self.papers() for hand in sorted(self.hands)]
        return [(paper, hand, self.parcel(paper), self.tons(paper)) for paper, hand in asked
                if not self.why(paper, hand)]

    def all_answers(self):
        """The same as `all_answers` of a store, told from the rows."""
        told = {("papers",): self.papers(), ("parcels",): self.parcels(), ("who",): self.who()}
        for paper in self.papers():
            told["paper", paper] = (self.parcel(paper), self.tons(paper), self.holder(paper), bool(self.spender(paper)))
            told.update({("why", paper, hand): self.why(paper, hand) for hand in self.hands})
            if "/" in paper:
                told["chain", paper] = self.chain(paper)
        for bill in self.bills():
            told["fate", bill] = self.fate(bill)
            told["heirs", bill] = self.heirs(bill)
        told.update({("roots", note): self.roots(note) for note in self.notes()})
        for parcel in self.parcels():
            given, taken, in_notes, under_bills = self.account(parcel)
            told["account", parcel] = (given, taken, in_notes, under_bills)
            told["lying", parcel] = given - taken
            told["stops", parcel] = self.stops(parcel)
            told["owed", parcel] = self.owed(parcel)
        return told

    def refusal(self, row):
        """The word of the refusal that goes ahead for this row in a store, or the empty text."""
        due = sorted(self.due(row), key=lambda word: ORDER.index(bare(word)))
        return due[0] if due else ""

    def due(self, row):
        try:
            check_row(row)
        except BadForm:
            return ["form"]
        deed = row[0]
        hands = [row[4], row[7]] if deed == "give" else list(row[3:5]) if deed in ("sign", "pass") else [row[3]]
        papers = list(row[4]) if deed == "join" else [row[2]] if deed in ("sign", "pass", "take", "part") else []
        due = ["unknown" for hand in hands if hand not in self.hands and hand != "-"]
        due += ["unknown" for paper in papers if paper not in self.born]
        if deed in ("stop", "lift", "paid"):
            due += [] if row[2] in self.parcels() else ["unknown"]
        return due or self.due_for_known(row, papers)

    def due_for_known(self, row, papers):
        deed, by = row[0], row[3]
        fresh = [row[2]] if deed in ("give", "join") else [name for name, tons in row[4]] if deed == "part" else []
        due = ["name" for name in fresh if name in self.bills() + self.notes()]
        if deed in ("take", "part", "join"):
            due += [word for paper in papers for word in self.shown_by(paper, by)]
        if deed == "pass" and self.holder(row[2]) != by:
            due.append("not yours")
        if deed == "take" and self.stops(self.parcel(row[2])):
            due.append("stopped")
        if deed == "part" and sum(tons for name, tons in row[4]) != self.tons(row[2]):
            due.append("tons")
        if deed == "join" and len({self.parcel(paper) for paper in papers}) > 1:
            due.append("parcel")
        return due + self.due_by_kind(row) + self.due_on_parcel(row) + self.due_by_bounds(row, papers)

    def due_by_kind(self, row):
        kinds = {given[2]: given[6] for given in self.rows if given[0] == "give"}
        return ["not to order"] if row[0] == "sign" and kinds[row[2].split("/")[0]] == "named" else []

    def due_on_parcel(self, row):
        due = []
        if row[0] in ("stop", "paid") and row[3] not in self.owed(row[2]):
            due.append("not owed")
        if row[0] == "stop" and row[3] in self.stops(row[2]):
            due.append("stop stands")
        if row[0] == "lift" and row[3] not in self.stops(row[2]):
            due.append("no stop")
        return due

    def due_by_bounds(self, row, papers):
        deed = row[0]
        full = False
        if deed == "give":
            full = len(self.bills()) + 1 > 100 or len(set(self.parcels()) | {row[3]}) > 60
        if deed == "sign":
            full = len(self.signings(row[2])) + 1 > 12
        if deed in ("part", "join"):
            full = len(self.notes()) + (len(row[4]) if deed == "part" else 1) > 300
        if deed == "join" and sum(self.tons(paper) for paper in papers) > BIG:
            full = True
        return ["full"] if full else []

    def names(self, row):
        """The papers that a row names, those of its whole parcel for a stop, a lift or a paying."""
        if row[0] in ("stop", "lift", "paid"):
            return {paper.split("/")[0] for paper in self.born if self.parcel(paper) == row[2]}
        told = {row[2].split("/")[0]}
        if row[0] == "join":
            told |= set(row[4])
        if row[0] == "part":
            told |= {name for name, tons in row[4]}
        return told


class LadingCase(unittest.TestCase):
    maxDiff = None

    def refused(self, word, call, *given):
        """The call is refused with this word's class, and with no other class above or below it."""
        with self.assertRaises(getattr(errors, WORDS[bare(word)])) as caught:
            call(*given)
        self.assertEqual(word_of(caught.exception), word)
        if bare(word) == "broken":
            self.assertIs(type(caught.exception.place), int)

    def refused_by_store(self, rows, row, word, good=None):
        """Neither `judge` nor `apply` does the row, and nothing changes."""
        store = store_of(rows)
        before = all_answers(store)
        for call in (store.judge, store.apply, store.judge):
            self.refused(word, call, row)
            self.assertEqual(all_answers(store), before)
        if good:
            self.assertIsNone(store.judge(good))
            self.assertEqual(all_answers(store), before)
            self.assertIsNone(store.apply(good))

    def refused_by_book(self, rows, row, word, good=None):
        """The row is not written, nothing changes, and a good row has the next number."""
        book = book_of(rows)
        before = all_of_book(book)
        self.refused(word, book.write, row)
        self.assertEqual(all_of_book(book), before)
        if good:
            self.assertEqual(book.write(good), len(rows) + 1)

    def refused_by_desk(self, rows, line, word, good=None):
        lines = [line_of(row) for row in rows] + [line] + ([line_of(good)] if good else [])
        kept = list(lines)
        numbers = [str(number + 1) for number in range(len(rows))]
        behind = [str(len(rows) + 1)] if good else []
        self.assertEqual(desk(list(HANDS), lines), numbers + ["refused: " + word] + behind)
        self.assertEqual(lines, kept)

    def refused_everywhere(self, rows, row, word, good=None):
        with self.subTest(row=row, word=word):
            self.refused_by_store(rows, row, word, good)
            self.refused_by_book(rows, row, word, good)
            self.refused_by_desk(rows, line_of(row), word, good)

    def done_everywhere(self, rows, row):
        """The row is done by a store, a book and the desk."""
        with self.subTest(row=row):
            store = store_of(rows)
            before = all_answers(store)
            self.assertIsNone(store.judge(row))
            self.assertEqual(all_answers(store), before)
            self.assertIsNone(store.apply(row))
            self.assertEqual(all_answers(store), Telling(rows + [row]).all_answers())
            book = book_of(rows)
            number = book.write(row)
            self.assertEqual(number, len(rows) + 1)
            self.assertIs(type(number), int)
            self.assertEqual(all_answers(book.at(row[1])), all_answers(store))
            self.assertEqual(desk(list(HANDS), [line_of(each) for each in rows + [row]])[-1], str(number))
