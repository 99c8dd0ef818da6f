"""Points 8 and 9: whole and broken chains, and the hand at their end."""

import itertools
import unittest

from ladingchain.chains import chain_end, first_break

# Made over all the way; the hand that signs is never the one that holds.
NAMED_CHAIN = [("ann", "bob", "dan"), ("bob", "cid", "dan"), ("cid", "eve", "dan")]
# Left open all the way; each is signed by the hand that held the copy then.
OPEN_CHAIN = [("ann", "-", "ann"), ("bob", "-", "bob"), ("cid", "-", "cid")]
# Made over and left open by turns.
MIXED_CHAIN = [("ann", "-", "bob"), ("cid", "dan", "cid"), ("dan", "-", "eve"), ("eve", "bob", "eve")]


def spoilt(signings, *places):
    """The same signings, those at the places (from 1) by a hand that has no part in them."""
    return [
        ("zoe", to, holder) if place in places else (by, to, holder)
        for place, (by, to, holder) in enumerate(signings, start=1)
    ]


def by_the_words(start, signings):
    """Point 8 read word by word, each signing judged by itself."""
    bad = []
    for index, (by, _, holder) in enumerate(signings):
        ahead = start if index == 0 else signings[index - 1][1]
        good = by == holder if ahead == "-" else by == ahead
        if not good:
            bad.append(index + 1)
    return min(bad, default=0)


class FirstBreak(unittest.TestCase):
    def check(self, start, signings, place):
        with self.subTest(start=start, signings=signings):
            kept = list(signings)
            told = first_break(start, signings)
            self.assertEqual(told, place)
            self.assertIs(type(told), int)
            self.assertEqual(signings, kept)

    def test_no_signings(self):
        self.check("ann", [], 0)
        self.check("-", [], 0)

    def test_whole_chains(self):
        self.check("ann", NAMED_CHAIN, 0)
        self.check("ann", OPEN_CHAIN, 0)
        self.check("-", OPEN_CHAIN, 0)
        self.check("ann", MIXED_CHAIN, 0)

    def test_twelve_and_more_signings(self):
        for length in (12, 13, 40):
            signings = [("ann", "bob", "cid"), ("bob", "ann", "cid")] * length
            self.check("ann", signings, 0)
            self.check("ann", signings + [("bob", "ann", "cid")], 2 * length + 1)

    def test_one_not_good(self):
        for start, chain in (("ann", NAMED_CHAIN), ("-", OPEN_CHAIN), ("ann", MIXED_CHAIN)):
            for place in range(1, len(chain) + 1):
                self.check(start, spoilt(chain, place), place)

    def test_two_not_good_tells_the_first(self):
        for start, chain in (("ann", NAMED_CHAIN), ("-", OPEN_CHAIN), ("ann", MIXED_CHAIN)):
            for first, second in itertools.combinations(range(1, len(chain) + 1), 2):
                self.check(start, spoilt(chain, first, second), first)

    def test_the_first_signing_of_a_copy_made_over(self):
        self.check("ann", [("ann", "bob", "ann")], 0)
        self.check("ann", [("ann", "bob", "cid")], 0)
        self.check("ann", [("cid", "bob", "cid")], 1)
        self.check("ann", [("bob", "bob", "ann")], 1)

    def test_the_first_signing_of_an_open_copy(self):
        self.check("-", [("ann", "bob", "ann")], 0)
        self.check("-", [("ann", "bob", "cid")], 1)
        self.check("-", [("ann", "ann", "cid")], 1)

    def test_behind_an_open_signing_its_own_holder_signs(self):
        self.check("ann", [("ann", "-", "ann"), ("bob", "cid", "bob")], 0)
        self.check("ann", [("ann", "-", "ann"), ("cid", "cid", "bob")], 2)

    def test_behind_an_open_signing_neither_its_signer_nor_its_holder_counts(self):
        self.check("ann", [("ann", "-", "bob"), ("ann", "cid", "dan")], 2)
        self.check("ann", [("ann", "-", "bob"), ("bob", "cid", "dan")], 2)

    def test_the_hand_it_was_made_over_to_signs_while_another_holds_it(self):
        self.check("ann", [("ann", "bob", "ann"), ("bob", "cid", "dan")], 0)

    def test_a_holder_to_whom_it_was_not_made_over(self):
        self.check("ann", [("ann", "bob", "ann"), ("dan", "cid", "dan")], 2)

    def test_the_start_does_not_sign_twice(self):
        self.check("ann", [("ann", "bob", "ann"), ("ann", "cid", "ann")], 2)

    def test_made_over_to_the_signer_itself(self):
        self.check("ann", [("ann", "ann", "bob"), ("ann", "cid", "bob")], 0)

    def test_all_short_chains_of_two_hands(self):
        hands = ("ann", "bob")
        one = list(itertools.product(hands, hands + ("-",), hands))
        for start in hands + ("-",):
            for length in (1, 2, 3):
                for signings in itertools.product(one, repeat=length):
                    chain = list(signings)
                    if first_break(start, chain) != by_the_words(start, chain):
                        self.fail(f"{start} {chain}")


class ChainEnd(unittest.TestCase):
    def check(self, start, signings, holder, end):
        with self.subTest(start=start, signings=signings, holder=holder):
            kept = list(signings)
            told = chain_end(start, signings, holder)
            self.assertEqual(told, end)
            self.assertIs(type(told), str)
            self.assertEqual(signings, kept)

    def test_without_signings(self):
        self.check("ann", [], "ann", "ann")
        self.check("ann", [], "bob", "ann")
        self.check("-", [], "bob", "bob")

    def test_the_last_signing_to_a_hand(self):
        self.check("ann", NAMED_CHAIN, "dan", "eve")
        self.check("ann", NAMED_CHAIN, "eve", "eve")
        self.check("ann", MIXED_CHAIN, "eve", "bob")
        self.check("-", [("ann", "bob", "ann")], "cid", "bob")

    def test_the_last_signing_leaves_it_open(self):
        self.check("ann", OPEN_CHAIN, "fay", "fay")
        self.check("-", OPEN_CHAIN, "cid", "cid")
        self.check("ann", [("ann", "-", "ann")], "bob", "bob")
        self.check("ann", MIXED_CHAIN[:3], "fay", "fay")

    def test_a_broken_chain_has_none(self):
        for start, chain in (("ann", NAMED_CHAIN), ("-", OPEN_CHAIN), ("ann", MIXED_CHAIN)):
            for place in range(1, len(chain) + 1):
                for holder in ("ann", "dan", "zoe"):
                    self.check(start, spoilt(chain, place), holder, "")

    def test_a_chain_broken_twice_has_none(self):
        self.check("ann", spoilt(NAMED_CHAIN, 1, 3), "eve", "")

    def test_all_short_chains_of_two_hands(self):
        hands = ("ann", "bob")
        one = list(itertools.product(hands, hands + ("-",), hands))
        for start, holder in itertools.product(hands + ("-",), hands):
            for length in (1, 2):
                for signings in itertools.product(one, repeat=length):
                    chain = list(signings)
                    last = chain[-1][1]
                    end = holder if last == "-" else last
                    if by_the_words(start, chain) != 0:
                        end = ""
                    if chain_end(start, chain, holder) != end:
                        self.fail(f"{start} {chain} {holder}")


if __name__ == "__main__":
    unittest.main()
