"""The desk: lines of text answered with texts, for one new book."""

from ladingchain.answers import account_of, chain_of, fate_of, heirs_of, lying, paper_of, roots_of, stops_of
from ladingchain.answers import taking_word, who_can, why_not
from ladingchain.book import Book
from ladingchain.errors import BadForm, DayFalls, DayOver, Full, LadingError, NamedLater, NameTaken, NoStop, NoSuch
from ladingchain.errors import NotOrder, NotOwed, OtherParcel, StopStands, Struck, WrongTons
from ladingchain.rows import day_fits, read_number, read_row

NOTHING = "-"


def listed(words):
    return " ".join(words) if len(words) > 0 else NOTHING


def in_words(values):
    return " ".join([str(value) for value in values])


def tell_who(store, asked):
    takers = [in_words(taker) for taker in who_can(store)]
    return ", ".join(takers) if len(takers) > 0 else NOTHING


def tell_why(store, asked):
    reason = why_not(store, asked[0], asked[1])
    return "can" if reason == "" else reason


def tell_paper(store, asked):
    told = paper_of(store, asked[0])
    return in_words(told[:3]) + (" spent" if told[3] else " unspent")


def tell_chain(store, asked):
    told = chain_of(store, asked[0])
    return in_words(("whole", told[2]) if told[1] == 0 else ("broken", told[1]))


def tell_bill(store, asked):
    fate = fate_of(store, asked[0])
    return "open" if fate[0] == "open" else in_words(fate)


def tell_heirs(store, asked):
    return listed(heirs_of(store, asked[0]))


def tell_roots(store, asked):
    return listed(roots_of(store, asked[0]))


def tell_store(store, asked):
    return str(lying(store, asked[0]))


def tell_account(store, asked):
    return in_words(account_of(store, asked[0]))


def tell_stops(store, asked):
    return listed(stops_of(store, asked[0]))


TELLERS = {
    "who": tell_who,
    "why": tell_why,
    "paper": tell_paper,
    "chain": tell_chain,
    "bill": tell_bill,
    "heirs": tell_heirs,
    "roots": tell_roots,
    "store": tell_store,
    "account": tell_account,
    "stops": tell_stops,
}
# How many words a line has that begins with this one; any other question has three.
LENGTHS = {"who": 2, "why": 4}


def check_length(words, length):
    if len(words) != length:
        raise BadForm("too few or too many words in a line")


# A row's number is written at the desk within the same bounds as a day.
def read_bounded(word):
    number = read_number(word)
    if not day_fits(number):
        raise BadForm("a number outside its bounds")
    return number


def ask(book, words):
    check_length(words, LENGTHS.get(words[0], 3))
    store = book.at(read_bounded(words[1]))
    return TELLERS[words[0]](store, words[2:])


def take_back(book, words):
    check_length(words, 3)
    number = read_bounded(words[2])
    book.strike(read_bounded(words[1]), number)
    return f"back {number}"


def serve(book, line):
    words = line.split(" ")
    if words[0] in TELLERS:
        return ask(book, words)
    if words[0] == "back":
        return take_back(book, words)
    return str(book.write(read_row(line)))


def refusal_word(refusal):
    if isinstance(refusal, BadForm):
        return "form"
    if isinstance(refusal, DayFalls):
        return "day"
    if isinstance(refusal, NoSuch):
        return "unknown"
    if isinstance(refusal, NameTaken):
        return "name"
    if isinstance(refusal, NotOrder):
        return "not to order"
    if isinstance(refusal, WrongTons):
        return "tons"
    if isinstance(refusal, OtherParcel):
        return "parcel"
    if isinstance(refusal, NotOwed):
        return "not owed"
    if isinstance(refusal, StopStands):
        return "stop stands"
    if isinstance(refusal, NoStop):
        return "no stop"
    if isinstance(refusal, Full):
        return "full"
    if isinstance(refusal, Struck):
        return "struck"
    if isinstance(refusal, DayOver):
        return "day over"
    if isinstance(refusal, NamedLater):
        return "named later"
    return taking_word(refusal)


def answer(book, line):
    try:
        return serve(book, line)
    except LadingError as refusal:
        word = refusal_word(refusal)
        return f"refused: {word}"


def desk(hands, lines):
    book = Book(hands)
    return [answer(book, line) for line in lines]
