"""All answers that a store gives; nothing changes by asking."""

from ladingchain.errors import BadForm, Broken, LadingError, NoSuch, NotYours, Spent
from ladingchain.names import good_name
from ladingchain.papers import good_copy, good_paper
from ladingchain.store import break_place, check_taking, end_hand, known_paper, known_parcel, need_hands


def need_name(text):
    if not good_name(text):
        raise BadForm(f"no name: {text!r}")


def asked_paper(store, text):
    if not good_paper(text):
        raise BadForm(f"no paper's text: {text!r}")
    return known_paper(store, text)


def asked_copy(store, text):
    if not good_copy(text):
        raise BadForm(f"no copy's text: {text!r}")
    return known_paper(store, text)


def asked_bill(store, name):
    need_name(name)
    if name not in store.bills:
        raise NoSuch(f"no such bill: {name}")
    return store.bills[name]


def asked_parcel(store, name):
    need_name(name)
    return known_parcel(store, name)


def paper_of(store, paper):
    found = asked_paper(store, paper)
    return (found.parcel, found.tons, found.holder, found.spent)


def all_papers(store):
    return sorted(store.papers)


def all_parcels(store):
    return sorted(store.parcels)


def chain_of(store, copy):
    found = asked_copy(store, copy)
    return (list(found.signings), break_place(found), end_hand(found))


# The four refusals of a taking, by the words that the desk has for them too.
def taking_word(refusal):
    if isinstance(refusal, Spent):
        return "spent"
    if isinstance(refusal, Broken):
        place = refusal.place
        return f"broken {place}"
    if isinstance(refusal, NotYours):
        return "not yours"
    return "stopped"


def why_not(store, paper, hand):
    need_name(hand)
    found = asked_paper(store, paper)
    need_hands(store, [hand])
    try:
        check_taking(store, found, hand)
    except LadingError as refusal:
        return taking_word(refusal)
    return ""


# Only the hand that holds a paper can take its goods, so no other is asked for.
def who_can(store):
    takers = []
    for text in sorted(store.papers):
        paper = store.papers[text]
        if why_not(store, text, paper.holder) == "":
            takers.append((text, paper.holder, paper.parcel, paper.tons))
    return takers


def fate_of(store, bill):
    return asked_bill(store, bill).fate


def heirs_of(store, bill):
    asked_bill(store, bill)
    leading_back = [note for note in store.roots if bill in store.roots[note]]
    return sorted([note for note in leading_back if not store.papers[note].spent])


def roots_of(store, note):
    need_name(note)
    known_paper(store, note)
    return list(store.roots[note])


def tons_in_notes(store, parcel):
    notes = [store.papers[note] for note in store.roots]
    return sum([note.tons for note in notes if note.parcel == parcel and not note.spent])


def account_of(store, parcel):
    taken = asked_parcel(store, parcel).taken
    bills = [store.bills[name] for name in store.bills if store.bills[name].parcel == parcel]
    given = sum([bill.tons for bill in bills])
    under_bills = sum([bill.tons for bill in bills if bill.fate[0] == "open"])
    return (given, taken, tons_in_notes(store, parcel), under_bills)


def lying(store, parcel):
    account = account_of(store, parcel)
    return account[0] - account[1]


def stops_of(store, parcel):
    return sorted(asked_parcel(store, parcel).stops)


def owed_of(store, parcel):
    return sorted(asked_parcel(store, parcel).owed)
