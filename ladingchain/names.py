"""Names, the texts of papers, and the bounds that rows keep to."""

from ladingchain.errors import BadForm

KINDS = ("named", "order", "holder")
LAST_DAY = 100000
MOST_TONS = 1000000000

LONGEST_NAME = 12
# Stands where a hand would, so it must be no name itself.
LEFT_OPEN = "-"
# Written out, so that no other figures (`01`, `+1`) are ever read as a number.
COPY_MARKS = {"/1": 1, "/2": 2, "/3": 3}


def small_letter(sign):
    return "a" <= sign <= "z"


def good_name(text):
    if len(text) < 1 or len(text) > LONGEST_NAME:
        return False
    return all([small_letter(sign) for sign in text])


def read_paper(text):
    if good_name(text):
        return (text, 0)
    name = text[:-2]
    mark = text[-2:]
    if good_name(name) and mark in COPY_MARKS:
        return (name, COPY_MARKS[mark])
    raise BadForm(f"no paper's text: {text!r}")
