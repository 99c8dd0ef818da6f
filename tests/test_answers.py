"""Points 1 and 25 to 31: each answer, its kinds, and what is refused where it is asked for."""

import unittest

from helper import HANDS, STRANGER, LadingCase, all_answers, store_of
from ladingchain.answers import account_of, all_papers, all_parcels, chain_of, fate_of, heirs_of, lying, owed_of
from ladingchain.answers import paper_of, roots_of, stops_of, who_can, why_not
from ladingchain.store import Store

ROWS = [
    ("give", 1, "abc", "rice", "sam", 100, "order", "ann", 3),
    ("give", 1, "one", "rice", "tom", 5, "holder", "bob", 1),
    ("give", 1, "two", "salt", "sam", 7, "named", "ann", 2),
    ("sign", 2, "abc/1", "ann", "bob"), ("sign", 2, "abc/2", "bob", "cid"),
    ("part", 3, "one/1", "bob", (("x", 2), ("y", 3))), ("take", 4, "y", "bob"), ("stop", 4, "rice", "tom"),
]
BAD_NAMES = ["", "-", "Abc", "ab1", "a b", " abc", "abc ", "abcdefghijklm", "abc/", "/1", "a:b", "rice ", "SAM"]
COPIES = ["abc/1", "abc/2", "abc/3"]
BAD_PAPERS = BAD_NAMES + ["abc/0", "abc/4", "abc/11", "abc/01", "abc/1/1", "abc/1 ", "abcdefghijklm/1", "Abc/1",
                          "none/4"]

# Each question that asks for one text, with a known one, and with good texts that are not known there.
ASKED_BY_PAPER = [(paper_of, "abc/1", ["none", "none/1", "abc", "x/1", "one/2", "one/3", "two/3", "rice", "ann"])]
ASKED_BY_COPY = [(chain_of, "abc/1", ["none/1", "x/1", "x/2", "x/3", "one/2", "two/3", "rice/1", "ann/1"])]
ASKED_BY_NAME = [
    (fate_of, "abc", ["none", "x", "y", "rice", "ann"]), (heirs_of, "abc", ["none", "x", "y", "rice", "ann"]),
    (roots_of, "x", ["none", "abc", "one", "two", "rice", "ann"]),
    (account_of, "rice", ["none", "abc", "x", "ann", "sam"]), (lying, "rice", ["none", "abc", "x", "ann", "sam"]),
    (stops_of, "rice", ["none", "abc", "x", "ann", "tom"]), (owed_of, "rice", ["none", "abc", "x", "ann", "sam"]),
]


class AskedWrongly(LadingCase):
    def setUp(self):
        self.store = store_of(ROWS)
        self.before = all_answers(self.store)

    def tearDown(self):
        self.assertEqual(all_answers(self.store), self.before)

    def test_texts_of_another_form(self):
        for questions, bad in ((ASKED_BY_PAPER, BAD_PAPERS), (ASKED_BY_COPY, BAD_PAPERS + ["abc", "x", "none"]),
                               (ASKED_BY_NAME, BAD_NAMES + COPIES + ["x/1", "none/1", "rice/1"])):
            for question, known, unknown in questions:
                question(self.store, known)
                for text in bad:
                    with self.subTest(question=question.__name__, text=text):
                        self.refused("form", question, self.store, text)
                        self.refused("form", question, Store([]), text)

    def test_what_is_not_known(self):
        for question, known, unknown in ASKED_BY_PAPER + ASKED_BY_COPY + ASKED_BY_NAME:
            for text in unknown:
                with self.subTest(question=question.__name__, text=text):
                    self.refused("unknown", question, self.store, text)
            with self.subTest(question=question.__name__):
                self.refused("unknown", question, Store([]), known)
                self.refused("unknown", question, Store(HANDS), known)

    def test_why_not_of_another_form_goes_ahead_of_what_is_not_known(self):
        papers = ["abc/1", "x", "none", "none/1", "abc", "x/1"]
        for hand in BAD_NAMES + ["ann/1"]:
            for paper in papers + BAD_PAPERS:
                with self.subTest(paper=paper, hand=hand):
                    self.refused("form", why_not, self.store, paper, hand)
        for paper in BAD_PAPERS:
            for hand in ("ann", STRANGER, "rice"):
                with self.subTest(paper=paper, hand=hand):
                    self.refused("form", why_not, self.store, paper, hand)

    def test_why_not_for_what_is_not_known(self):
        for paper in ("none", "none/1", "abc", "x/1", "one/2", "two/3", "rice"):
            for hand in ("ann", STRANGER):
                with self.subTest(paper=paper, hand=hand):
                    self.refused("unknown", why_not, self.store, paper, hand)
        for paper in ("abc/1", "abc/2", "x", "y", "two/1"):
            for hand in (STRANGER, "abc", "rice", "x"):
                with self.subTest(paper=paper, hand=hand):
                    self.refused("unknown", why_not, self.store, paper, hand)

    def test_a_copy_s_number_above_the_bill_s_copies(self):
        for copies in (1, 2, 3):
            store = store_of([("give", 1, "abc", "rice", "sam", 10, "order", "ann", copies)])
            for number in (1, 2, 3):
                paper = f"abc/{number}"
                for question in (paper_of, chain_of, lambda store, text: why_not(store, text, "ann")):
                    if number <= copies:
                        question(store, paper)
                    else:
                        self.refused("unknown", question, store, paper)


class Told(LadingCase):
    def setUp(self):
        self.store = store_of(ROWS)

    def kinds(self, value):
        if isinstance(value, (tuple, list)):
            return type(value), [self.kinds(inner) for inner in value]
        return type(value)

    def check(self, told, expected):
        self.assertEqual(told, expected)
        self.assertEqual(self.kinds(told), self.kinds(expected))

    def test_a_store_without_papers(self):
        for hands in ([], HANDS):
            store = Store(hands)
            self.check([all_papers(store), all_parcels(store), who_can(store)], [[], [], []])

    def test_papers(self):
        self.check(paper_of(self.store, "abc/1"), ("rice", 100, "ann", False))
        self.check(paper_of(self.store, "one/1"), ("rice", 5, "bob", True))
        self.check(paper_of(self.store, "two/2"), ("salt", 7, "ann", False))
        self.check(paper_of(self.store, "x"), ("rice", 2, "bob", False))
        self.check(paper_of(self.store, "y"), ("rice", 3, "bob", True))
        self.check(all_papers(self.store), ["abc/1", "abc/2", "abc/3", "one/1", "two/1", "two/2", "x", "y"])
        self.check(all_parcels(self.store), ["rice", "salt"])

    def test_chains(self):
        self.check(chain_of(self.store, "abc/1"), ([("ann", "bob", "ann")], 0, "bob"))
        self.check(chain_of(self.store, "abc/2"), ([("bob", "cid", "ann")], 1, ""))
        self.check(chain_of(self.store, "abc/3"), ([], 0, "ann"))
        self.check(chain_of(self.store, "one/1"), ([], 0, "bob"))
        self.check(chain_of(self.store, "two/1"), ([], 0, "ann"))

    def test_reasons_in_their_order(self):
        asked = [("y", "bob", "spent"), ("y", "ann", "spent"), ("one/1", "bob", "spent"), ("abc/2", "ann", "broken 1"),
                 ("abc/2", "cid", "broken 1"), ("abc/1", "ann", "not yours"), ("abc/1", "bob", "not yours"),
                 ("abc/3", "bob", "not yours"), ("abc/3", "ann", "stopped"), ("x", "bob", "stopped"),
                 ("x", "ann", "not yours"), ("two/1", "ann", ""), ("two/2", "bob", "not yours")]
        for paper, hand, reason in asked:
            with self.subTest(paper=paper, hand=hand):
                self.check(why_not(self.store, paper, hand), reason)

    def test_broken_with_its_number(self):
        for place in range(1, 13):
            signings = [("sign", 2, "abc/1", "ann" if number != place else "bob", "ann") for number in range(1, 13)]
            store = store_of(ROWS[:1] + signings)
            self.check(why_not(store, "abc/1", "ann"), f"broken {place}")
            self.assertEqual(chain_of(store, "abc/1")[1:], (place, ""))

    def test_spent_goes_ahead_of_broken(self):
        store = store_of(ROWS[:5] + [("take", 9, "abc/3", "ann")])
        self.assertEqual([why_not(store, paper, "ann") for paper in COPIES], ["spent"] * 3)

    def test_takers(self):
        self.check(who_can(self.store), [("two/1", "ann", "salt", 7), ("two/2", "ann", "salt", 7)])
        lifted = store_of(ROWS + [("lift", 5, "rice", "tom")])
        takers = [("abc/3", "ann", "rice", 100), ("two/1", "ann", "salt", 7), ("two/2", "ann", "salt", 7)]
        self.check(who_can(lifted), takers + [("x", "bob", "rice", 2)])

    def test_fates(self):
        self.check(fate_of(self.store, "abc"), ("open", 0, "", 0))
        self.check(fate_of(self.store, "one"), ("parted", 1, "bob", 3))
        for number in (1, 2):
            store = store_of(ROWS + [("take", 100000, f"two/{number}", "ann")])
            self.check(fate_of(store, "two"), ("taken", number, "ann", 100000))
        store = store_of([ROWS[0], ("take", 0, "abc/3", "ann")])
        self.check(fate_of(store, "abc"), ("taken", 3, "ann", 0))

    def test_heirs_and_roots(self):
        self.check(heirs_of(self.store, "abc"), [])
        self.check(heirs_of(self.store, "one"), ["x"])
        self.check(roots_of(self.store, "x"), ["one"])
        self.check(roots_of(self.store, "y"), ["one"])

    def test_parcels(self):
        self.check(account_of(self.store, "rice"), (105, 3, 2, 100))
        self.check(account_of(self.store, "salt"), (7, 0, 0, 7))
        self.check([lying(self.store, "rice"), lying(self.store, "salt")], [102, 7])
        self.check([stops_of(self.store, "rice"), stops_of(self.store, "salt")], [["tom"], []])
        self.check([owed_of(self.store, "rice"), owed_of(self.store, "salt")], [["sam", "tom"], ["sam"]])

    def test_nothing_changes_by_asking(self):
        before = all_answers(self.store)
        self.assertEqual(all_answers(self.store), before)
        self.assertEqual(all_answers(store_of(ROWS)), before)


class InTheOrderOfTexts(LadingCase):
    def test_papers_parcels_and_takers(self):
        names = ["b", "ab", "a", "z", "abc", "aa", "zz"]
        rows = [("give", 1, name, name, "sam", 3, "order", "ann", 3) for name in names]
        rows.append(("part", 1, "ab/1", "ann", (("y", 1), ("aba", 1), ("c", 1))))
        store = store_of(rows)
        papers = sorted([f"{name}/{number}" for name in names for number in (1, 2, 3)] + ["y", "aba", "c"])
        self.assertEqual(all_papers(store), papers)
        self.assertEqual(papers[:4], ["a/1", "a/2", "a/3", "aa/1"])
        self.assertEqual(all_parcels(store), sorted(names))
        self.assertEqual([taker[0] for taker in who_can(store)], [paper for paper in papers if paper[:3] != "ab/"])

    def test_heirs_roots_stops_and_owed(self):
        bills = ["c", "a", "b"]
        rows = [("give", 1, bill, "rice", hand, 2, "order", "ann", 1) for bill,
                hand in zip(bills, ["tom", "sam", "bob"])]
        rows += [("part", 1, bill + "/1", "ann", (("z" + bill, 1), ("k" + bill, 1))) for bill in bills]
        rows += [("stop", 2, "rice", hand) for hand in ("tom", "bob", "sam")]
        rows.append(("join", 3, "m", "ann", ("zc", "za", "zb")))
        store = store_of(rows)
        self.assertEqual(heirs_of(store, "a"), ["ka", "m"])
        self.assertEqual(heirs_of(store, "c"), ["kc", "m"])
        self.assertEqual(roots_of(store, "m"), ["a", "b", "c"])
        self.assertEqual(stops_of(store, "rice"), ["bob", "sam", "tom"])
        self.assertEqual(owed_of(store, "rice"), ["bob", "sam", "tom"])


if __name__ == "__main__":
    unittest.main()
