"""A store: what rows lead to, begun without any paper.

For each deed one function judges a row in the order of the refusals, and
another one does a row that was judged to be good.
"""

from ladingchain.chains import chain_end, first_break
from ladingchain.errors import BadForm, Broken, Full, NameTaken, NoStop, NoSuch, NotOrder, NotOwed, NotYours
from ladingchain.errors import OtherParcel, Spent, Stopped, StopStands, WrongTons
from ladingchain.names import LEFT_OPEN, MOST_TONS, read_paper
from ladingchain.papers import paper_name
from ladingchain.rows import check_row, names_fit_and_differ

MOST_HANDS = 40
MOST_PARCELS = 60
MOST_BILLS = 100
MOST_NOTES_KNOWN = 300
MOST_SIGNINGS = 12

FATE_OF_UNSPENT = ("open", 0, "", 0)


# A copy of a bill, or a note. A note has no chain: it is like a copy that is
# open from the start and never signed, so whoever holds it is at its end.
class Paper:
    def __init__(self, parcel, tons, holder, made_over):
        self.parcel = parcel
        self.tons = tons
        self.holder = holder
        self.made_over = made_over
        self.signings = []
        self.spent = False


class Bill:
    def __init__(self, parcel, tons, kind, copies):
        self.parcel = parcel
        self.tons = tons
        self.kind = kind
        self.copies = copies
        self.fate = FATE_OF_UNSPENT


class Parcel:
    def __init__(self):
        self.taken = 0
        self.owed = {}
        self.stops = {}


def check_roll(hands):
    if len(hands) > MOST_HANDS or not names_fit_and_differ(hands):
        raise BadForm("no roll of hands")


def need_hands(store, hands):
    for hand in hands:
        if hand not in store.hands:
            raise NoSuch(f"no such hand: {hand}")


# Copies and notes are kept by their texts, bills apart from them by their names:
# so neither a bill told as a note nor a note told as a copy is ever found here.
def known_paper(store, text):
    if text not in store.papers:
        raise NoSuch(f"no such paper: {text}")
    return store.papers[text]


def known_parcel(store, name):
    if name not in store.parcels:
        raise NoSuch(f"no such parcel: {name}")
    return store.parcels[name]


def need_free_names(store, names):
    for name in names:
        if name in store.bills or name in store.roots:
            raise NameTaken(f"a paper is called so already: {name}")


def need_room_for_notes(store, more):
    if len(store.roots) + more > MOST_NOTES_KNOWN:
        raise Full("too many notes")


def break_place(paper):
    return first_break(paper.made_over, paper.signings)


def end_hand(paper):
    return chain_end(paper.made_over, paper.signings, paper.holder)


# Each question is put to all papers ahead of the next one, for a refusal that
# goes ahead may be due for a paper further behind.
def check_shown(papers, by):
    for paper in papers:
        if paper.spent:
            raise Spent("a spent paper")
    for paper in papers:
        place = break_place(paper)
        if place != 0:
            raise Broken(place)
    for paper in papers:
        if paper.holder != by or end_hand(paper) != by:
            raise NotYours("not the hand that can show the paper")


def check_taking(store, paper, by):
    check_shown([paper], by)
    if len(store.parcels[paper.parcel].stops) > 0:
        raise Stopped("a stop stands on the parcel")


def judge_give(store, row):
    need_hands(store, [row[4], row[7]])
    need_free_names(store, [row[2]])
    if row[3] not in store.parcels and len(store.parcels) >= MOST_PARCELS:
        raise Full("too many parcels")
    if len(store.bills) >= MOST_BILLS:
        raise Full("too many bills")


def judge_sign(store, row):
    paper = known_paper(store, row[2])
    need_hands(store, [hand for hand in row[3:5] if hand != LEFT_OPEN])
    if store.bills[paper_name(row[2])].kind == "named":
        raise NotOrder("a copy of a named bill bears no signings")
    if len(paper.signings) >= MOST_SIGNINGS:
        raise Full("too many signings")


def judge_pass(store, row):
    paper = known_paper(store, row[2])
    need_hands(store, [row[3], row[4]])
    if paper.holder != row[3]:
        raise NotYours("not the hand that holds the paper")


def judge_take(store, row):
    paper = known_paper(store, row[2])
    need_hands(store, [row[3]])
    check_taking(store, paper, row[3])


def judge_part(store, row):
    paper = known_paper(store, row[2])
    need_hands(store, [row[3]])
    need_free_names(store, [piece[0] for piece in row[4]])
    check_shown([paper], row[3])
    if sum([piece[1] for piece in row[4]]) != paper.tons:
        raise WrongTons("the pieces don't come to the tons of the paper")
    need_room_for_notes(store, len(row[4]))


def judge_join(store, row):
    papers = [known_paper(store, note) for note in row[4]]
    need_hands(store, [row[3]])
    need_free_names(store, [row[2]])
    check_shown(papers, row[3])
    if any([paper.parcel != papers[0].parcel for paper in papers]):
        raise OtherParcel("notes of several parcels")
    if sum([paper.tons for paper in papers]) > MOST_TONS:
        raise Full("too many tons")
    need_room_for_notes(store, 1)


def judge_stop(store, row):
    parcel = known_parcel(store, row[2])
    need_hands(store, [row[3]])
    if row[3] not in parcel.owed:
        raise NotOwed("not owed for the parcel")
    if row[3] in parcel.stops:
        raise StopStands("this hand's stop stands already")


def judge_lift(store, row):
    parcel = known_parcel(store, row[2])
    need_hands(store, [row[3]])
    if row[3] not in parcel.stops:
        raise NoStop("this hand has no stop on the parcel")


def judge_paid(store, row):
    parcel = known_parcel(store, row[2])
    need_hands(store, [row[3]])
    if row[3] not in parcel.owed:
        raise NotOwed("not owed for the parcel")


def copy_text(name, number):
    return f"{name}/{number}"


def do_give(store, row):
    parcel = row[3]
    made_over = LEFT_OPEN if row[6] == "holder" else row[7]
    copies = [copy_text(row[2], number) for number in range(1, row[8] + 1)]
    for text in copies:
        store.papers[text] = Paper(parcel, row[5], row[7], made_over)
    store.bills[row[2]] = Bill(parcel, row[5], row[6], copies)
    if parcel not in store.parcels:
        store.parcels[parcel] = Parcel()
    owed = store.parcels[parcel].owed
    owed[row[4]] = True


def do_sign(store, row):
    paper = store.papers[row[2]]
    paper.signings.append((row[3], row[4], paper.holder))


def do_pass(store, row):
    paper = store.papers[row[2]]
    paper.holder = row[4]


def spend_papers(store, texts):
    for text in texts:
        paper = store.papers[text]
        paper.spent = True


def spend_shown(store, row, word):
    told = read_paper(row[2])
    if told[1] == 0:
        spend_papers(store, [row[2]])
        return
    bill = store.bills[told[0]]
    bill.fate = (word, told[1], row[3], row[1])
    spend_papers(store, bill.copies)


def do_take(store, row):
    paper = store.papers[row[2]]
    parcel = store.parcels[paper.parcel]
    spend_shown(store, row, "taken")
    parcel.taken += paper.tons


def roots_behind(store, text):
    told = read_paper(text)
    return store.roots[text] if told[1] == 0 else (told[0],)


def make_note(store, name, paper, roots):
    store.papers[name] = paper
    store.roots[name] = roots


def do_part(store, row):
    parcel = store.papers[row[2]].parcel
    roots = roots_behind(store, row[2])
    spend_shown(store, row, "parted")
    for name, tons in row[4]:
        make_note(store, name, Paper(parcel, tons, row[3], LEFT_OPEN), roots)


def do_join(store, row):
    papers = [store.papers[note] for note in row[4]]
    tons = sum([paper.tons for paper in papers])
    roots = []
    for note in row[4]:
        roots.extend(store.roots[note])
    spend_papers(store, row[4])
    joined = Paper(papers[0].parcel, tons, row[3], LEFT_OPEN)
    make_note(store, row[2], joined, tuple(sorted(set(roots))))


def do_stop(store, row):
    parcel = store.parcels[row[2]]
    parcel.stops[row[3]] = True


def do_lift(store, row):
    parcel = store.parcels[row[2]]
    parcel.stops.pop(row[3])


def do_paid(store, row):
    parcel = store.parcels[row[2]]
    parcel.owed.pop(row[3])
    # A hand may be paid whether or not it has a stop on the parcel.
    parcel.stops.pop(row[3], None)


JUDGES = {
    "give": judge_give,
    "sign": judge_sign,
    "pass": judge_pass,
    "take": judge_take,
    "part": judge_part,
    "join": judge_join,
    "stop": judge_stop,
    "lift": judge_lift,
    "paid": judge_paid,
}
DOERS = {
    "give": do_give,
    "sign": do_sign,
    "pass": do_pass,
    "take": do_take,
    "part": do_part,
    "join": do_join,
    "stop": do_stop,
    "lift": do_lift,
    "paid": do_paid,
}


class Store:
    # A note is kept among the papers like a copy; that it is one is told by roots,
    # which has the bills that each note leads back to.
    def __init__(self, hands):
        check_roll(hands)
        self.hands = list(hands)
        self.bills = {}
        self.papers = {}
        self.roots = {}
        self.parcels = {}

    def judge(self, row):
        check_row(row)
        JUDGES[row[0]](self, row)

    # For rows alone that are judged already: a book does its rows again and again.
    def perform(self, row):
        DOERS[row[0]](self, row)

    def apply(self, row):
        self.judge(row)
        self.perform(row)
