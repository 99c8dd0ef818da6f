"""Rows: their good form, the papers that they name, and their texts."""

from ladingchain.errors import BadForm
from ladingchain.names import KINDS, LAST_DAY, LEFT_OPEN, MOST_TONS, good_name
from ladingchain.papers import good_copy, good_paper, paper_name

MOST_COPIES = 3
MOST_PIECES = 12
FEWEST_NOTES = 2
MOST_NOTES = 12

# Behind each deed's word, the sorts of the values that follow it in a row.
FORMS = {
    "give": ("day", "name", "name", "name", "tons", "kind", "name", "copies"),
    "sign": ("day", "copy", "name", "to"),
    "pass": ("day", "paper", "name", "name"),
    "take": ("day", "paper", "name"),
    "part": ("day", "paper", "name", "pieces"),
    "join": ("day", "name", "name", "notes"),
    "stop": ("day", "name", "name"),
    "lift": ("day", "name", "name"),
    "paid": ("day", "name", "name"),
}
NUMBER_SORTS = ("day", "tons", "copies")
# These stand last in a row, and several words of its text make up one value.
LISTED_SORTS = ("pieces", "notes")


# One deed's values may stand behind another deed's word, so each check asks for
# the kind of a value ahead of all else. To Python, True is a whole number.
def whole_within(value, least, most):
    if not isinstance(value, int) or isinstance(value, bool):
        return False
    return least <= value <= most


def day_fits(value):
    return whole_within(value, 0, LAST_DAY)


def tons_fit(value):
    return whole_within(value, 1, MOST_TONS)


def copies_fit(value):
    return whole_within(value, 1, MOST_COPIES)


def kind_fits(value):
    return value in KINDS


def name_fits(value):
    return isinstance(value, str) and good_name(value)


def receiver_fits(value):
    return value == LEFT_OPEN or name_fits(value)


def copy_fits(value):
    return isinstance(value, str) and good_copy(value)


def paper_fits(value):
    return isinstance(value, str) and good_paper(value)


def names_fit_and_differ(names):
    if not all([name_fits(name) for name in names]):
        return False
    return len(set(names)) == len(names)


def piece_fits(value):
    return isinstance(value, tuple) and len(value) == 2 and tons_fit(value[1])


def pieces_fit(value):
    if not isinstance(value, tuple) or not 1 <= len(value) <= MOST_PIECES:
        return False
    if not all([piece_fits(piece) for piece in value]):
        return False
    return names_fit_and_differ([piece[0] for piece in value])


def notes_fit(value):
    if not isinstance(value, tuple) or not FEWEST_NOTES <= len(value) <= MOST_NOTES:
        return False
    return names_fit_and_differ(value)


CHECKS = {
    "day": day_fits,
    "tons": tons_fit,
    "copies": copies_fit,
    "kind": kind_fits,
    "name": name_fits,
    "to": receiver_fits,
    "copy": copy_fits,
    "paper": paper_fits,
    "pieces": pieces_fit,
    "notes": notes_fit,
}


def sorts_behind(deed):
    if not isinstance(deed, str) or deed not in FORMS:
        raise BadForm("no deed's word")
    return FORMS[deed]


def check_row(row):
    if not isinstance(row, tuple) or len(row) == 0:
        raise BadForm("no row")
    sorts = sorts_behind(row[0])
    if len(row) != len(sorts) + 1:
        raise BadForm("too few or too many values in a row")
    for sort, value in zip(sorts, row[1:]):
        if not CHECKS[sort](value):
            raise BadForm(f"no good {sort} in a row")


def names_told(row):
    deed = row[0]
    if deed == "give":
        return [row[2]]
    if deed == "join":
        return [row[2]] + list(row[4])
    if deed == "part":
        return [paper_name(row[2])] + [piece[0] for piece in row[4]]
    if deed in ("sign", "pass", "take"):
        return [paper_name(row[2])]
    return []


def row_names(row):
    return sorted(set(names_told(row)))


def piece_text(piece):
    name = piece[0]
    tons = piece[1]
    return f"{name}:{tons}"


def words_of(sort, value):
    if sort == "pieces":
        return [piece_text(piece) for piece in value]
    if sort == "notes":
        return list(value)
    return [str(value)]


def row_text(row):
    check_row(row)
    words = [row[0]]
    for sort, value in zip(FORMS[row[0]], row[1:]):
        words.extend(words_of(sort, value))
    return " ".join(words)


# Python's int takes signs, blanks and noughts in front, and itself refuses very
# long figures: so it is asked only for what is sure to be a number of a row.
def good_figures(word):
    if len(word) < 1 or len(word) > len(str(MOST_TONS)):
        return False
    if not all(["0" <= sign <= "9" for sign in word]):
        return False
    return word == "0" or not word.startswith("0")


def read_number(word):
    if not good_figures(word):
        raise BadForm("no number's text")
    return int(word)


def read_piece(word):
    sides = word.split(":")
    if len(sides) != 2:
        raise BadForm("no piece's text")
    return (sides[0], read_number(sides[1]))


def gathered(sorts, words):
    if sorts[-1] not in LISTED_SORTS:
        return words
    plain = len(sorts) - 1
    return words[:plain] + [words[plain:]]


def read_value(sort, told):
    if sort in NUMBER_SORTS:
        return read_number(told)
    if sort == "pieces":
        return tuple([read_piece(word) for word in told])
    if sort == "notes":
        return tuple(told)
    return told


def read_row(text):
    words = text.split(" ")
    sorts = sorts_behind(words[0])
    values = gathered(sorts, words[1:])
    if len(values) != len(sorts):
        raise BadForm("too few or too many words in a row's text")
    row = (words[0],) + tuple([read_value(sort, told) for sort, told in zip(sorts, values)])
    check_row(row)
    return row
