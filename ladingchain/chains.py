"""Whether a copy's signings make a whole chain, and which hand is at its end.

Signings are tuples (by, to, holder): who signed, to whom, and which hand held
the copy at that time.
"""

from ladingchain.names import LEFT_OPEN


# Holding counts only where the copy is open: a hand to whom it is made over
# need not hold it.
def entitled_hand(made_over, holder):
    if made_over == LEFT_OPEN:
        return holder
    return made_over


def first_break(start, signings):
    made_over = start
    place = 0
    for by, to, holder in signings:
        place += 1
        if by != entitled_hand(made_over, holder):
            return place
        made_over = to
    return 0


def last_made_over(start, signings):
    if len(signings) == 0:
        return start
    return signings[-1][1]


def chain_end(start, signings, holder):
    if first_break(start, signings) != 0:
        return ""
    return entitled_hand(last_made_over(start, signings), holder)
