"""Papers' texts as rows ask for them: a copy, a copy or a note, the name in it."""

from ladingchain.errors import BadForm
from ladingchain.names import read_paper


def good_paper(text):
    try:
        read_paper(text)
    except BadForm:
        return False
    return True


def good_copy(text):
    return good_paper(text) and read_paper(text)[1] != 0


def paper_name(text):
    return read_paper(text)[0]
