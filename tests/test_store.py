"""Points 1, 2, 4, 8 to 18 and 21: rolls, chains within a store, and just what each deed changes."""

import unittest

from helper import BIG, HANDS, LadingCase, Telling, all_answers, changed, store_of
from ladingchain.answers import all_papers, all_parcels, chain_of, fate_of, heirs_of, owed_of, paper_of, roots_of
from ladingchain.answers import account_of, lying, stops_of, who_can, why_not
from ladingchain.book import Book
from ladingchain.desk import desk
from ladingchain.store import Store

FORTY = [first + second for first in "abcdefgh" for second in "vwxyz"]
# The hands for whom `why_not` is asked where all answers are laid beside one another.
ASKED = ["ann", "bob"]


def give(bill, tons=10, kind="order", hand="ann", copies=1, parcel="rice", sender="sam", day=1):
    return ("give", day, bill, parcel, sender, tons, kind, hand, copies)


def sign(copy, by, to):
    return ("sign", 2, copy, by, to)


def hand_on(paper, by, to):
    return ("pass", 2, paper, by, to)


def part(paper, by, **pieces):
    return ("part", 3, paper, by, tuple(pieces.items()))


def join(name, by, *notes):
    return ("join", 4, name, by, notes)


def take(paper, by, day=5):
    return ("take", day, paper, by)


class Rolls(LadingCase):
    ROWS = [("give", 1, "abc", "rice", "av", 10, "order", "hz", 1)]

    def makers(self, hands):
        """A roll handed to all that are made for one."""
        return [(Store, (hands,)), (Book, (hands,)), (desk, (hands, [])), (desk, (hands, ["who 1", "no line"]))]

    def test_good_rolls(self):
        for roll in ([], ["ann"], ["a"], ["abcdefghijkl"], ["bob", "ann"], FORTY[:39], FORTY):
            kept = list(roll)
            for maker, given in self.makers(roll):
                with self.subTest(roll=roll, maker=maker):
                    self.assertIsNotNone(maker(*given))
                    self.assertEqual(roll, kept)

    def test_bad_rolls(self):
        bad = [FORTY + ["zz"], FORTY + FORTY, ["ann", "ann"], ["ann", "bob", "ann"], FORTY[:39] + ["av"], ["ann"] * 41]
        for text in ("", "-", "Ann", "ann1", "a b", " ann", "ann ", "abc/1", "abcdefghijklm", "a:b", "_"):
            bad += [[text], ["ann", text], [text, "ann"], FORTY[:39] + [text]]
        for roll in bad:
            kept = list(roll)
            for maker, given in self.makers(roll):
                with self.subTest(roll=roll, maker=maker):
                    self.refused("form", maker, *given)
                    self.assertEqual(roll, kept)

    def test_all_hands_of_a_roll_are_known_and_no_other(self):
        store = store_of(self.ROWS, FORTY)
        for hand in FORTY:
            self.assertIsNone(store.judge(("pass", 1, "abc/1", "hz", hand)))
        for hand in ("zz", "abc", "rice", "a", "avx"):
            self.refused("unknown", store.judge, ("pass", 1, "abc/1", "hz", hand))

    def test_nobody_is_known_by_an_empty_roll(self):
        store = Store([])
        self.refused("unknown", store.apply, give("abc"))
        self.assertEqual(all_answers(store, []), {("papers",): [], ("parcels",): [], ("who",): []})
        book = Book([])
        self.refused("unknown", book.write, give("abc"))
        self.assertEqual(book.rows(), [])
        self.assertEqual(desk([], ["give 1 abc rice sam 10 order ann 1", "who 1"]), ["refused: unknown", "-"])

    def test_the_roll_that_was_handed_in_is_changed_afterwards(self):
        roll = ["ann", "bob", "sam"]
        store = Store(roll)
        book = Book(roll)
        roll.append("cid")
        roll.remove("bob")
        for write in (store.apply, book.write):
            write(give("abc"))
            self.refused("unknown", write, hand_on("abc/1", "ann", "cid"))
            write(hand_on("abc/1", "ann", "bob"))
        roll.clear()
        told = book.at(2)
        self.refused("unknown", told.apply, hand_on("abc/1", "bob", "cid"))
        told.apply(hand_on("abc/1", "bob", "ann"))
        self.assertEqual(book.strike(2, 2), hand_on("abc/1", "ann", "bob"))
        self.refused("unknown", book.write, hand_on("abc/1", "ann", "cid"))
        self.assertEqual(book.write(hand_on("abc/1", "ann", "bob")), 3)

    def test_two_made_of_one_roll_are_apart(self):
        roll = ["ann", "bob", "sam"]
        for one, other in ((Store(roll), Store(roll)), (Book(roll).at(1), Book(roll).at(1))):
            one.apply(give("abc"))
            self.assertEqual(all_papers(one), ["abc/1"])
            self.assertEqual(all_papers(other), [])
            other.apply(give("abc", tons=3, parcel="salt"))
            self.assertEqual(paper_of(one, "abc/1"), ("rice", 10, "ann", False))
            self.assertEqual(paper_of(other, "abc/1"), ("salt", 3, "ann", False))
        first, second = Book(roll), Book(roll)
        first.write(give("abc"))
        self.assertEqual(second.rows(), [])
        self.assertEqual(second.write(give("abc")), 1)


class NothingIsShared(LadingCase):
    ROWS = [
        give("abc", copies=2), give("def", sender="tom", tons=5), sign("abc/1", "ann", "bob"),
        part("abc/2", "ann", x=4, y=6), part("def/1", "ann", v=5), join("z", "ann", "x", "v"),
        ("stop", 4, "rice", "sam"), ("stop", 4, "rice", "tom"),
    ]

    def lists_of(self, store):
        return [
            all_papers(store), all_parcels(store), who_can(store), chain_of(store, "abc/1")[0], heirs_of(store, "abc"),
            roots_of(store, "z"), roots_of(store, "y"), stops_of(store, "rice"), owed_of(store, "rice"),
        ]

    def test_lists_that_were_told_are_changed(self):
        store = store_of(self.ROWS)
        before = all_answers(store)
        for told in self.lists_of(store):
            self.assertIs(type(told), list)
            told.append("more")
            told.reverse()
            self.assertEqual(all_answers(store), before)
            told.clear()
            self.assertEqual(all_answers(store), before)
        store.apply(("lift", 5, "rice", "sam"))
        self.assertEqual(stops_of(store, "rice"), ["tom"])

    def test_what_was_told_stays_as_it_was_when_rows_follow(self):
        store = store_of(self.ROWS)
        told, kept = self.lists_of(store), self.lists_of(store)
        for row in (("lift", 5, "rice", "sam"), ("paid", 5, "rice", "tom"), give("new", parcel="aaa"),
                    sign("abc/1", "bob", "cid"), take("z", "ann"), take("y", "ann")):
            store.apply(row)
        self.assertEqual(told, kept)
        self.assertNotEqual(self.lists_of(store), kept)

    def test_rows_that_were_handed_in_stay_as_they_were(self):
        rows = list(self.ROWS)
        store_of(rows)
        self.assertEqual(rows, self.ROWS)


class NamesSideBySide(LadingCase):
    def test_hands_parcels_and_papers_called_alike(self):
        store = store_of([
            ("give", 1, "ann", "ann", "ann", 6, "order", "ann", 2),
            ("part", 2, "ann/2", "ann", (("bob", 4), ("rice", 2))),
            ("give", 3, "sam", "bob", "bob", 9, "holder", "bob", 1), ("stop", 3, "bob", "bob"),
        ])
        self.assertEqual(all_parcels(store), ["ann", "bob"])
        self.assertEqual(all_papers(store), ["ann/1", "ann/2", "bob", "rice", "sam/1"])
        self.assertEqual(paper_of(store, "bob"), ("ann", 4, "ann", False))
        self.assertEqual(account_of(store, "bob"), (9, 0, 0, 9))
        self.assertEqual(account_of(store, "ann"), (6, 0, 6, 0))
        self.assertEqual(who_can(store), [("bob", "ann", "ann", 4), ("rice", "ann", "ann", 2)])


class Chains(LadingCase):
    def check(self, rows, chain, takers):
        """The chain of abc/1 and those who can take it; the other copies are as they were given out."""
        with self.subTest(rows):
            store = store_of(rows)
            self.assertEqual(chain_of(store, "abc/1"), chain)
            self.assertEqual([hand for paper, hand, parcel, tons in who_can(store) if paper == "abc/1"], takers)
            for hand in HANDS:
                self.assertEqual(why_not(store, "abc/1", hand) == "", hand in takers)
            self.assertEqual(all_answers(store), Telling(rows).all_answers())

    def test_to_order(self):
        bill = give("abc", copies=2)
        self.check([bill], ([], 0, "ann"), ["ann"])
        signed = [bill, sign("abc/1", "ann", "bob")]
        self.check(signed, ([("ann", "bob", "ann")], 0, "bob"), [])
        self.check(signed + [hand_on("abc/1", "ann", "bob")], ([("ann", "bob", "ann")], 0, "bob"), ["bob"])
        self.check(signed + [hand_on("abc/1", "ann", "cid")], ([("ann", "bob", "ann")], 0, "bob"), [])

    def test_passed_without_signing(self):
        bill = give("abc", copies=2)
        passed = [bill, hand_on("abc/1", "ann", "bob")]
        self.check(passed, ([], 0, "ann"), [])
        self.check(passed + [hand_on("abc/1", "bob", "ann")], ([], 0, "ann"), ["ann"])
        # The hand to whom it was made over signs while another one holds it.
        self.check(passed + [sign("abc/1", "ann", "bob")], ([("ann", "bob", "bob")], 0, "bob"), ["bob"])

    def test_passed_to_the_same_hand(self):
        self.check([give("abc"), hand_on("abc/1", "ann", "ann")], ([], 0, "ann"), ["ann"])

    def test_left_open(self):
        opened = [give("abc", copies=2), sign("abc/1", "ann", "-")]
        self.check(opened, ([("ann", "-", "ann")], 0, "ann"), ["ann"])
        passed = opened + [hand_on("abc/1", "ann", "bob")]
        self.check(passed, ([("ann", "-", "ann")], 0, "bob"), ["bob"])
        self.check(passed + [hand_on("abc/1", "bob", "cid")], ([("ann", "-", "ann")], 0, "cid"), ["cid"])
        self.check(passed + [sign("abc/1", "bob", "tom")], ([("ann", "-", "ann"), ("bob", "tom", "bob")], 0, "tom"), [])
        self.check(passed + [sign("abc/1", "ann", "tom")], ([("ann", "-", "ann"), ("ann", "tom", "bob")], 2, ""), [])

    def test_signed_over_to_the_signer_itself(self):
        self.check([give("abc"), sign("abc/1", "ann", "ann")], ([("ann", "ann", "ann")], 0, "ann"), ["ann"])

    def test_to_the_holder(self):
        bill = give("abc", kind="holder", copies=2)
        self.check([bill], ([], 0, "ann"), ["ann"])
        self.check([bill, hand_on("abc/1", "ann", "bob")], ([], 0, "bob"), ["bob"])
        self.check([bill, sign("abc/1", "ann", "bob")], ([("ann", "bob", "ann")], 0, "bob"), [])
        self.check([bill, sign("abc/1", "bob", "bob")], ([("bob", "bob", "ann")], 1, ""), [])
        self.check([bill, hand_on("abc/1", "ann", "bob"), sign("abc/1", "bob", "-")], ([("bob", "-", "bob")], 0, "bob"),
                   ["bob"])
        self.check([bill, hand_on("abc/1", "ann", "bob"), sign("abc/1", "ann", "-")], ([("ann", "-", "bob")], 1, ""),
                   [])

    def test_named(self):
        bill = give("abc", kind="named", copies=2)
        self.check([bill], ([], 0, "ann"), ["ann"])
        self.check([bill, hand_on("abc/1", "ann", "bob")], ([], 0, "ann"), [])
        back = [bill, hand_on("abc/1", "ann", "bob"), hand_on("abc/1", "bob", "ann")]
        self.check(back, ([], 0, "ann"), ["ann"])
        for by, to in (("ann", "bob"), ("ann", "-"), ("bob", "ann")):
            self.refused("not to order", store_of([bill]).apply, sign("abc/1", by, to))

    def test_any_known_hand_signs_and_may_break_the_chain(self):
        bill = give("abc", copies=2)
        for hand in HANDS[1:]:
            self.check([bill, sign("abc/1", hand, "ann")], ([(hand, "ann", "ann")], 1, ""), [])
        broken = [bill, sign("abc/1", "ann", "bob"), sign("abc/1", "ann", "cid")]
        signings = [("ann", "bob", "ann"), ("ann", "cid", "ann")]
        self.check(broken, (signings, 2, ""), [])
        # What follows mends nothing, and the first that is not good is told.
        self.check(broken + [sign("abc/1", "cid", "ann")], (signings + [("cid", "ann", "ann")], 2, ""), [])
        self.check(broken + [sign("abc/1", "tom", "ann")], (signings + [("tom", "ann", "ann")], 2, ""), [])

    def test_the_hand_that_held_the_copy_stands_beside_each_signing(self):
        rows = [give("abc"), sign("abc/1", "ann", "bob"), hand_on("abc/1", "ann", "cid"), sign("abc/1", "bob", "-"),
                hand_on("abc/1", "cid", "tom"), sign("abc/1", "tom", "tom")]
        self.check(rows, ([("ann", "bob", "ann"), ("bob", "-", "cid"), ("tom", "tom", "tom")], 0, "tom"), ["tom"])

    def test_each_copy_has_its_own_signings_and_holder(self):
        store = store_of([give("abc", copies=3), sign("abc/2", "ann", "bob"), hand_on("abc/2", "ann", "bob"),
                          sign("abc/3", "cid", "tom"), hand_on("abc/3", "ann", "sam")])
        self.assertEqual(chain_of(store, "abc/1"), ([], 0, "ann"))
        self.assertEqual(chain_of(store, "abc/2"), ([("ann", "bob", "ann")], 0, "bob"))
        self.assertEqual(chain_of(store, "abc/3"), ([("cid", "tom", "ann")], 1, ""))
        self.assertEqual([paper_of(store, f"abc/{number}")[2] for number in (1, 2, 3)], ["ann", "bob", "sam"])
        self.assertEqual(who_can(store), [("abc/1", "ann", "rice", 10), ("abc/2", "bob", "rice", 10)])

    def test_signing_a_copy_changes_its_own_chain_alone(self):
        rows = [give("abc", copies=2), give("def")]
        store = store_of(rows)
        before = all_answers(store, ASKED)
        store.apply(sign("abc/2", "ann", "bob"))
        self.assertEqual(changed(before, all_answers(store, ASKED)), {
            ("chain", "abc/2"): ([("ann", "bob", "ann")], 0, "bob"), ("why", "abc/2", "ann"): "not yours",
            ("who",): [("abc/1", "ann", "rice", 10), ("def/1", "ann", "rice", 10)],
        })

    def test_passing_changes_its_own_holder_alone(self):
        store = store_of([give("abc", copies=2), part("abc/1", "ann", x=4, y=6)])
        before = all_answers(store, ASKED)
        store.apply(hand_on("x", "ann", "bob"))
        self.assertEqual(changed(before, all_answers(store, ASKED)), {
            ("paper", "x"): ("rice", 4, "bob", False), ("why", "x", "ann"): "not yours", ("why", "x", "bob"): "",
            ("who",): [("x", "bob", "rice", 4), ("y", "ann", "rice", 6)],
        })

    def test_spent_papers_are_signed_and_passed_like_others_for_they_are_not_shown_by_it(self):
        rows = [give("abc", kind="holder", copies=2), part("abc/1", "ann", x=4, y=6), take("x", "ann"),
                hand_on("abc/2", "ann", "bob"), sign("abc/2", "bob", "-"), hand_on("x", "ann", "cid")]
        store = store_of(rows)
        self.assertEqual(paper_of(store, "abc/2"), ("rice", 10, "bob", True))
        self.assertEqual(chain_of(store, "abc/2"), ([("bob", "-", "bob")], 0, "bob"))
        self.assertEqual(paper_of(store, "x"), ("rice", 4, "cid", True))
        self.refused("not yours", store.apply, hand_on("abc/2", "ann", "cid"))
        self.refused("spent", store.apply, take("x", "cid"))
        self.refused("spent", store.apply, take("abc/2", "bob"))


class Takings(LadingCase):
    def test_a_bill_of_one_to_three_copies(self):
        for copies in (1, 2, 3):
            for number in range(1, copies + 1):
                with self.subTest(copies=copies, number=number):
                    self.check_bill(copies, number)

    def check_bill(self, copies, number):
        store = store_of([give("abc", copies=copies), give("def", tons=3)])
        before = all_answers(store, ASKED)
        store.apply(take(f"abc/{number}", "ann", 7))
        expected = {
            ("fate", "abc"): ("taken", number, "ann", 7), ("account", "rice"): (13, 10, 0, 3), ("lying", "rice"): 3,
            ("who",): [("def/1", "ann", "rice", 3)],
        }
        for each in range(1, copies + 1):
            expected["paper", f"abc/{each}"] = ("rice", 10, "ann", True)
            expected.update({("why", f"abc/{each}", hand): "spent" for hand in ASKED})
        self.assertEqual(changed(before, all_answers(store, ASKED)), expected)
        for each in range(1, copies + 1):
            self.refused("spent", store.apply, take(f"abc/{each}", "ann"))
            self.refused("spent", store.apply, part(f"abc/{each}", "ann", q=10))

    def test_the_other_copies_keep_their_holders_and_chains(self):
        store = store_of([give("abc", copies=3), sign("abc/2", "ann", "bob"), hand_on("abc/2", "ann", "bob"),
                          sign("abc/3", "bob", "ann"), hand_on("abc/3", "ann", "cid"), take("abc/2", "bob", 9)])
        self.assertEqual(fate_of(store, "abc"), ("taken", 2, "bob", 9))
        self.assertEqual([paper_of(store, f"abc/{number}") for number in (1, 2, 3)],
                         [("rice", 10, "ann", True), ("rice", 10, "bob", True), ("rice", 10, "cid", True)])
        self.assertEqual(chain_of(store, "abc/2"), ([("ann", "bob", "ann")], 0, "bob"))
        self.assertEqual(chain_of(store, "abc/3"), ([("bob", "ann", "ann")], 1, ""))
        self.assertEqual([why_not(store, f"abc/{number}", "ann") for number in (1, 2, 3)], ["spent"] * 3)

    def test_the_end_of_an_open_spent_copy_is_the_hand_that_held_it_last(self):
        store = store_of([give("abc", kind="holder", copies=2), hand_on("abc/1", "ann", "bob"), take("abc/1", "bob")])
        self.assertEqual(chain_of(store, "abc/1"), ([], 0, "bob"))
        self.assertEqual(chain_of(store, "abc/2"), ([], 0, "ann"))

    def test_a_note(self):
        store = store_of([give("abc", copies=2), part("abc/1", "ann", x=4, y=6)])
        before = all_answers(store, ASKED)
        store.apply(take("y", "ann"))
        self.assertEqual(changed(before, all_answers(store, ASKED)), {
            ("paper", "y"): ("rice", 6, "ann", True), ("why", "y", "ann"): "spent", ("why", "y", "bob"): "spent",
            ("account", "rice"): (10, 6, 4, 0), ("lying", "rice"): 4, ("heirs", "abc"): ["x"],
            ("who",): [("x", "ann", "rice", 4)],
        })
        store.apply(take("x", "ann"))
        self.assertEqual(account_of(store, "rice"), (10, 10, 0, 0))
        self.assertEqual(lying(store, "rice"), 0)
        self.assertEqual(who_can(store), [])
        self.assertEqual(all_parcels(store), ["rice"])

    def test_parcels_are_counted_apart(self):
        store = store_of([give("abc"), give("def", parcel="salt", tons=3), give("ghi", parcel="salt", tons=4),
                          take("def/1", "ann")])
        self.assertEqual(account_of(store, "rice"), (10, 0, 0, 10))
        self.assertEqual(account_of(store, "salt"), (7, 3, 0, 4))


class Partings(LadingCase):
    def check_bill(self, copies, number, stopped):
        rows = [give("abc", copies=copies), give("def", tons=3)] + ([("stop", 1, "rice", "sam")] if stopped else [])
        store = store_of(rows)
        before = all_answers(store, ASKED)
        store.apply(("part", 7, f"abc/{number}", "ann", (("y", 6), ("x", 4))))
        why = {"ann": "stopped" if stopped else "", "bob": "not yours"}
        copy_texts = [f"abc/{each}" for each in range(1, copies + 1)]
        expected = {
            ("papers",): copy_texts + ["def/1", "x", "y"], ("fate", "abc"): ("parted", number, "ann", 7),
            ("heirs", "abc"): ["x", "y"], ("roots", "x"): ["abc"], ("roots", "y"): ["abc"],
            ("account", "rice"): (13, 0, 10, 3), ("paper", "x"): ("rice", 4, "ann", False),
            ("paper", "y"): ("rice", 6, "ann", False),
        }
        expected.update({("why", note, hand): why[hand] for note in "xy" for hand in ASKED})
        for copy in copy_texts:
            expected["paper", copy] = ("rice", 10, "ann", True)
            expected.update({("why", copy, hand): "spent" for hand in ASKED})
        if not stopped:
            expected["who",] = [("def/1", "ann", "rice", 3), ("x", "ann", "rice", 4), ("y", "ann", "rice", 6)]
        self.assertEqual(changed(before, all_answers(store, ASKED)), expected)

    def test_a_bill_of_one_to_three_copies_with_and_without_a_stop(self):
        for copies in (1, 2, 3):
            for number in range(1, copies + 1):
                for stopped in (False, True):
                    with self.subTest(copies=copies, number=number, stopped=stopped):
                        self.check_bill(copies, number, stopped)

    def test_a_note_with_and_without_a_stop(self):
        for stop in ([], [("stop", 3, "rice", "sam")]):
            store = store_of([give("abc", copies=2), part("abc/1", "ann", x=4, y=6)] + stop)
            before = all_answers(store, ASKED)
            store.apply(part("y", "ann", w=1, v=5))
            can = "stopped" if stop else ""
            expected = {
                ("papers",): ["abc/1", "abc/2", "v", "w", "x", "y"], ("heirs", "abc"): ["v", "w", "x"],
                ("roots", "v"): ["abc"], ("roots", "w"): ["abc"], ("paper", "v"): ("rice", 5, "ann", False),
                ("paper", "w"): ("rice", 1, "ann", False), ("paper", "y"): ("rice", 6, "ann", True),
                ("why", "v", "ann"): can, ("why", "w", "ann"): can, ("why", "v", "bob"): "not yours",
                ("why", "w", "bob"): "not yours", ("why", "y", "ann"): "spent", ("why", "y", "bob"): "spent",
            }
            if not stop:
                expected["who",] = [("v", "ann", "rice", 5), ("w", "ann", "rice", 1), ("x", "ann", "rice", 4)]
            with self.subTest(stop):
                self.assertEqual(changed(before, all_answers(store, ASKED)), expected)

    def test_one_piece_and_twelve_pieces(self):
        store = store_of([give("abc", tons=12), part("abc/1", "ann", all=12)])
        self.assertEqual(paper_of(store, "all"), ("rice", 12, "ann", False))
        names = "abcdefghijkl"
        store.apply(("part", 3, "all", "ann", tuple((name, 1) for name in names)))
        self.assertEqual(heirs_of(store, "abc"), list(names))
        self.assertEqual(account_of(store, "rice"), (12, 0, 12, 0))

    def test_notes_are_held_by_the_hand_that_parted(self):
        store = store_of([give("abc"), sign("abc/1", "ann", "bob"), hand_on("abc/1", "ann", "bob"),
                          part("abc/1", "bob", x=4, y=6), hand_on("x", "bob", "cid"), part("x", "cid", v=4)])
        self.assertEqual([paper_of(store, note)[2] for note in "vxy"], ["cid", "cid", "bob"])
        self.assertEqual(fate_of(store, "abc"), ("parted", 1, "bob", 3))

    def test_whoever_holds_a_note_can_show_it(self):
        store = store_of([give("abc", kind="named"), part("abc/1", "ann", x=10), hand_on("x", "ann", "bob")])
        self.assertEqual([why_not(store, "x", hand) for hand in ("ann", "bob")], ["not yours", ""])
        store.apply(take("x", "bob"))
        self.assertEqual(lying(store, "rice"), 0)


class Joinings(LadingCase):
    ROWS = [give("abc", copies=2), give("def", tons=5), give("far", tons=7, parcel="salt"),
            part("abc/1", "ann", x=4, y=6), part("def/1", "ann", u=2, v=3), part("far/1", "ann", s=7)]

    def test_notes_of_two_bills_with_and_without_a_stop(self):
        for stop in ([], [("stop", 3, "rice", "sam")]):
            store = store_of(self.ROWS + stop)
            before = all_answers(store, ASKED)
            store.apply(("join", 7, "big", "ann", ("v", "y")))
            expected = {
                ("papers",): ["abc/1", "abc/2", "big", "def/1", "far/1", "s", "u", "v", "x", "y"],
                ("paper", "big"): ("rice", 9, "ann", False), ("paper", "v"): ("rice", 3, "ann", True),
                ("paper", "y"): ("rice", 6, "ann", True), ("roots", "big"): ["abc", "def"],
                ("heirs", "abc"): ["big", "x"], ("heirs", "def"): ["big", "u"],
                ("why", "big", "ann"): "stopped" if stop else "", ("why", "big", "bob"): "not yours",
                ("why", "v", "ann"): "spent", ("why", "v", "bob"): "spent", ("why", "y", "ann"): "spent",
                ("why", "y", "bob"): "spent",
            }
            takers = [("big", "ann", "rice", 9), ("s", "ann", "salt", 7), ("u", "ann", "rice", 2),
                      ("x", "ann", "rice", 4)]
            if not stop:
                expected["who",] = takers
            with self.subTest(stop):
                self.assertEqual(changed(before, all_answers(store, ASKED)), expected)

    def test_notes_of_notes(self):
        store = store_of(self.ROWS + [join("big", "ann", "y", "v"), part("big", "ann", p=8, q=1),
                                      join("r", "ann", "x", "q")])
        self.assertEqual({note: roots_of(store, note) for note in "pqrxyuv"}, {
            "p": ["abc", "def"], "q": ["abc", "def"], "r": ["abc", "def"], "x": ["abc"], "y": ["abc"], "u": ["def"],
            "v": ["def"],
        })
        self.assertEqual(heirs_of(store, "abc"), ["p", "r"])
        self.assertEqual(heirs_of(store, "def"), ["p", "r", "u"])
        self.assertEqual(heirs_of(store, "far"), ["s"])
        self.assertEqual(account_of(store, "rice"), (15, 0, 15, 0))
        self.assertEqual(paper_of(store, "r"), ("rice", 5, "ann", False))

    def test_a_joined_note_of_several_bills_is_taken_or_parted(self):
        rows = self.ROWS + [join("big", "ann", "y", "v")]
        others = [("s", "ann", "salt", 7), ("u", "ann", "rice", 2), ("x", "ann", "rice", 4)]
        spent = {("paper", "big"): ("rice", 9, "ann", True), ("why", "big", "ann"): "spent",
                 ("why", "big", "bob"): "spent"}
        before = all_answers(store_of(rows), ASKED)
        self.assertEqual(changed(before, all_answers(store_of(rows + [take("big", "ann")]), ASKED)), spent | {
            ("account", "rice"): (15, 9, 6, 0), ("lying", "rice"): 6, ("heirs", "abc"): ["x"], ("heirs", "def"): ["u"],
            ("who",): others,
        })
        self.assertEqual(changed(before, all_answers(store_of(rows + [part("big", "ann", p=9)]), ASKED)), spent | {
            ("papers",): sorted(all_papers(store_of(rows)) + ["p"]), ("paper", "p"): ("rice", 9, "ann", False),
            ("roots", "p"): ["abc", "def"], ("heirs", "abc"): ["p", "x"], ("heirs", "def"): ["p", "u"],
            ("why", "p", "ann"): "", ("why", "p", "bob"): "not yours", ("who",): [("p", "ann", "rice", 9)] + others,
        })

    def test_twelve_notes_of_one_bill(self):
        names = tuple("abcdefghijkl")
        store = store_of([give("all", tons=78), ("part", 3, "all/1", "ann", tuple(zip(names, range(1, 13)))),
                          join("m", "ann", *reversed(names))])
        self.assertEqual(paper_of(store, "m"), ("rice", 78, "ann", False))
        self.assertEqual(roots_of(store, "m"), ["all"])
        self.assertEqual(heirs_of(store, "all"), ["m"])

    def test_a_bill_whose_notes_are_all_spent_has_no_heirs(self):
        store = store_of(self.ROWS + [take("s", "ann")])
        self.assertEqual(heirs_of(store, "far"), [])
        self.assertEqual(roots_of(store, "s"), ["far"])


class Stops(LadingCase):
    TWO = [give("abc"), give("def", sender="tom", tons=5), give("far", parcel="salt", sender="sam")]

    def state(self, rows):
        store = store_of(rows)
        self.assertEqual(all_answers(store), Telling(rows).all_answers())
        return owed_of(store, "rice"), stops_of(store, "rice"), [taker[0] for taker in who_can(store)]

    def test_owed_from_the_first_bill_on(self):
        self.assertEqual(self.state(self.TWO[:1]), (["sam"], [], ["abc/1"]))
        self.assertEqual(self.state(self.TWO), (["sam", "tom"], [], ["abc/1", "def/1", "far/1"]))
        self.assertEqual(self.state([self.TWO[1], self.TWO[0]]), (["sam", "tom"], [], ["abc/1", "def/1"]))

    def test_a_stop_bars_all_of_the_parcel_and_nothing_else(self):
        rows = self.TWO + [part("abc/1", "ann", x=4, y=6), ("stop", 3, "rice", "sam")]
        self.assertEqual(self.state(rows), (["sam", "tom"], ["sam"], ["far/1"]))
        store = store_of(rows)
        before = all_answers(store)
        for paper in ("x", "y", "def/1"):
            self.assertEqual(why_not(store, paper, "ann"), "stopped")
            self.refused("stopped", store.apply, take(paper, "ann"))
        self.assertEqual(all_answers(store), before)
        self.assertEqual(why_not(store, "far/1", "ann"), "")

    def test_a_stop_changes_no_other_answer(self):
        store = store_of(self.TWO)
        before = all_answers(store, ASKED)
        store.apply(("stop", 3, "rice", "tom"))
        stopped = all_answers(store, ASKED)
        self.assertEqual(changed(before, stopped), {
            ("stops", "rice"): ["tom"], ("why", "abc/1", "ann"): "stopped", ("why", "def/1", "ann"): "stopped",
            ("who",): [("far/1", "ann", "salt", 10)],
        })
        store.apply(("lift", 4, "rice", "tom"))
        self.assertEqual(all_answers(store, ASKED), before)

    def test_papers_given_out_or_made_behind_a_stop_are_barred(self):
        rows = [self.TWO[0], ("stop", 1, "rice", "sam"), self.TWO[1], part("def/1", "ann", x=5)]
        self.assertEqual(self.state(rows), (["sam", "tom"], ["sam"], []))

    def test_several_stops_until_all_are_gone(self):
        rows = self.TWO + [("stop", 3, "rice", "tom"), ("stop", 3, "rice", "sam")]
        self.assertEqual(self.state(rows), (["sam", "tom"], ["sam", "tom"], ["far/1"]))
        self.assertEqual(self.state(rows + [("lift", 3, "rice", "sam")]), (["sam", "tom"], ["tom"], ["far/1"]))
        self.assertEqual(self.state(rows + [("lift", 3, "rice", "tom")]), (["sam", "tom"], ["sam"], ["far/1"]))
        self.assertEqual(self.state(rows + [("paid", 3, "rice", "tom")]), (["sam"], ["sam"], ["far/1"]))
        gone = rows + [("lift", 3, "rice", "tom"), ("paid", 3, "rice", "sam")]
        self.assertEqual(self.state(gone), (["tom"], [], ["abc/1", "def/1", "far/1"]))

    def test_stopped_again_behind_a_lift(self):
        rows = self.TWO + [("stop", 3, "rice", "sam"), ("lift", 3, "rice", "sam"), ("stop", 3, "rice", "sam")]
        self.assertEqual(self.state(rows), (["sam", "tom"], ["sam"], ["far/1"]))

    def test_paid_with_and_without_a_stop(self):
        for rows in (self.TWO, self.TWO + [("stop", 3, "rice", "sam")]):
            paid = rows + [("paid", 4, "rice", "sam")]
            self.assertEqual(self.state(paid), (["tom"], [], ["abc/1", "def/1", "far/1"]))
            store = store_of(paid)
            self.assertEqual(owed_of(store, "salt"), ["sam"])
            self.refused("not owed", store.apply, ("stop", 4, "rice", "sam"))
            self.refused("not owed", store.apply, ("paid", 4, "rice", "sam"))
            self.refused("no stop", store.apply, ("lift", 4, "rice", "sam"))

    def test_a_further_bill_of_a_sender_that_was_paid(self):
        rows = self.TWO + [("stop", 3, "rice", "sam"), ("paid", 4, "rice", "sam"), give("more", parcel="salt")]
        self.assertEqual(self.state(rows)[:2], (["tom"], []))
        rows += [give("most", day=5)]
        self.assertEqual(self.state(rows)[:2], (["sam", "tom"], []))
        rows += [("stop", 5, "rice", "sam")]
        self.assertEqual(self.state(rows)[:2], (["sam", "tom"], ["sam"]))
        self.assertEqual(self.state(rows + [("paid", 6, "rice", "sam")])[:2], (["tom"], []))

    def test_a_second_bill_of_a_sender_changes_nothing_that_it_is_owed(self):
        rows = self.TWO + [("stop", 3, "rice", "sam"), give("more", day=3)]
        self.assertEqual(self.state(rows)[:2], (["sam", "tom"], ["sam"]))
        self.assertEqual(self.state(rows + [("paid", 3, "rice", "sam")])[:2], (["tom"], []))

    def test_a_sender_is_owed_also_when_all_is_taken(self):
        rows = self.TWO + [take("abc/1", "ann"), take("def/1", "ann"), ("stop", 6, "rice", "tom")]
        self.assertEqual(self.state(rows), (["sam", "tom"], ["tom"], ["far/1"]))

    def test_the_sender_is_owed_and_not_the_hand_that_had_the_bill(self):
        store = store_of(self.TWO)
        for hand in ("ann", "bob"):
            self.refused("not owed", store.apply, ("stop", 3, "rice", hand))
            self.refused("not owed", store.apply, ("paid", 3, "rice", hand))
        # One that is owed for another parcel is not owed here.
        self.refused("not owed", store.apply, ("stop", 3, "salt", "tom"))


class GivingOut(LadingCase):
    def test_just_what_a_first_bill_changes(self):
        store = Store(HANDS)
        store.apply(give("abc", copies=2, hand="bob"))
        self.assertEqual(all_answers(store, ASKED), {
            ("papers",): ["abc/1", "abc/2"], ("parcels",): ["rice"],
            ("who",): [("abc/1", "bob", "rice", 10), ("abc/2", "bob", "rice", 10)],
            ("paper", "abc/1"): ("rice", 10, "bob", False), ("paper", "abc/2"): ("rice", 10, "bob", False),
            ("why", "abc/1", "ann"): "not yours", ("why", "abc/1", "bob"): "", ("why", "abc/2", "ann"): "not yours",
            ("why", "abc/2", "bob"): "", ("chain", "abc/1"): ([], 0, "bob"), ("chain", "abc/2"): ([], 0, "bob"),
            ("fate", "abc"): ("open", 0, "", 0), ("heirs", "abc"): [], ("account", "rice"): (10, 0, 0, 10),
            ("lying", "rice"): 10, ("stops", "rice"): [], ("owed", "rice"): ["sam"],
        })

    def test_a_further_bill_of_the_parcel_counts_once_however_many_copies_it_has(self):
        for copies in (1, 2, 3):
            store = store_of([give("abc"), give("def", tons=BIG, copies=copies)])
            self.assertEqual(account_of(store, "rice"), (BIG + 10, 0, 0, BIG + 10))
            self.assertEqual(lying(store, "rice"), BIG + 10)

    def test_sender_and_hand_may_be_one(self):
        store = store_of([give("abc", hand="sam", kind="named")])
        store.apply(("stop", 1, "rice", "sam"))
        self.refused("stopped", store.apply, take("abc/1", "sam"))

    def test_a_store_does_not_look_at_the_order_of_days(self):
        store = store_of([give("abc", day=100000), give("def", day=0), ("take", 50, "abc/1", "ann"),
                          give("ghi", day=7)])
        self.assertEqual(fate_of(store, "abc"), ("taken", 1, "ann", 50))
        self.assertEqual(all_papers(store), ["abc/1", "def/1", "ghi/1"])

    def test_judge_tells_none_and_does_nothing(self):
        rows = [give("abc", copies=2), sign("abc/1", "ann", "-"), hand_on("abc/1", "ann", "bob"),
                part("abc/1", "bob", x=4, y=6), join("z", "bob", "x", "y"), ("stop", 4, "rice", "sam"),
                ("lift", 4, "rice", "sam"), ("paid", 4, "rice", "sam"), take("z", "bob")]
        store = Store(HANDS)
        for row in rows:
            before = all_answers(store)
            self.assertIsNone(store.judge(row))
            self.assertIsNone(store.judge(row))
            self.assertEqual(all_answers(store), before)
            self.assertIsNone(store.apply(row))
            self.assertNotEqual(all_answers(store), before)


if __name__ == "__main__":
    unittest.main()
