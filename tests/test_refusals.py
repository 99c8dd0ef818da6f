"""Points 2, 11 to 16 and 18 to 21: what is refused, with which class, in which order, and that it changes nothing."""

import itertools
import unittest

from helper import BIG, HANDS, ORDER, STRANGER, WORDS, LadingCase, book_of, line_of, store_of, tried
from ladingchain.desk import desk

DAY = 5
LETTERS = "abcdefghijklmnopqrstuvwxyz"
# A paper that none of the rows below touches; it can always be passed, so a row for it is good behind any refusal.
FILL = ("give", DAY, "fill", "ballast", "sam", 1, "holder", "ann", 1)
GOOD = ("pass", DAY, "fill/1", "ann", "ann")


def many(first, count):
    """So many names that begin with this letter."""
    return [first + one + other for one, other in itertools.product(LETTERS, LETTERS)][:count]


def filled_with_bills(count):
    return [("give", DAY, name, "rice", "sam", 1, "named", "ann", 1) for name in many("b", count)]


def filled_with_parcels(count):
    return [("give", DAY, name, name, "sam", 1, "named", "ann", 1) for name in many("p", count)]


def filled_with_notes(count):
    """Notes of a parcel of their own, twelve by a bill as long as it goes."""
    names = many("n", count)
    rows = []
    for bill in range(0, count, 12):
        pieces = tuple((name, 1) for name in names[bill:bill + 12])
        name = many("c", 100)[bill // 12]
        rows.append(("give", DAY, name, "heap", "sam", len(pieces), "named", "ann", 1))
        rows.append(("part", DAY, name + "/1", "ann", pieces))
    return rows


def filled_with_rows(rows):
    """The same rows and good ones behind them, so that a book has no room left."""
    return rows + [GOOD] * (300 - len(rows))


def day_of(faults):
    return DAY - 1 if "day" in faults else DAY


def hand_of(faults, hand):
    return STRANGER if "unknown" in faults else hand


# Each of these tells rows, and a row behind them that has just these faults.
def give_case(faults):
    rows = [FILL, ("give", DAY, "abc", "rice", "sam", 10, "order", "ann", 2)]
    rows += filled_with_bills(98) if "full" in faults else []
    rows += filled_with_parcels(58) if "parcels" in faults else []
    name = "abc" if "name" in faults else "new"
    tons = 0 if "form" in faults else 10
    parcel = "fresh" if "parcels" in faults else "rice"
    return rows, ("give", day_of(faults), name, parcel, "sam", tons, "order", hand_of(faults, "ann"), 1)


def sign_case(faults):
    kind = "named" if "not to order" in faults else "order"
    rows = [FILL, ("give", DAY, "abc", "rice", "sam", 10, kind, "ann", 2)]
    rows += [("sign", DAY, "abc/1", "ann", "ann")] * 12 if "full" in faults else []
    to = "B" if "form" in faults else hand_of(faults, "bob")
    return rows, ("sign", day_of(faults), "abc/1", "ann", to)


def pass_case(faults):
    rows = [FILL, ("give", DAY, "abc", "rice", "sam", 10, "order", "ann", 2)]
    by = "bob" if "not yours" in faults else "ann"
    to = "-" if "form" in faults else hand_of(faults, "cid")
    return rows, ("pass", day_of(faults), "abc/1", by, to)


def shown_copy(faults):
    rows = [FILL, ("give", DAY, "abc", "rice", "sam", 10, "order", "ann", 2)]
    rows += [("sign", DAY, "abc/1", "bob", "ann")] if "broken 1" in faults else []
    rows += [("pass", DAY, "abc/1", "ann", "bob")] if "not yours" in faults else []
    rows += [("take", DAY, "abc/2", "ann")] if "spent" in faults else []
    return rows + ([("stop", DAY, "rice", "sam")] if "stopped" in faults else [])


def take_case(faults):
    row = ("take", day_of(faults), "abc/1", hand_of(faults, "ann"))
    return shown_copy(faults), row + (("ann",) if "form" in faults else ())


def part_case(faults):
    rows = shown_copy(faults) + (filled_with_notes(299) if "full" in faults else [])
    pieces = [["abc" if "name" in faults else "x", 4], ["y", 7 if "tons" in faults else 6]]
    pieces[0][0] = "y" if "form" in faults else pieces[0][0]
    pieces = tuple((name, tons) for name, tons in pieces)
    return rows, ("part", day_of(faults), "abc/1", hand_of(faults, "ann"), pieces)


def join_case(faults):
    tons = 6 * 10 ** 8 if "full" in faults else 5
    rows = [FILL, ("give", DAY, "one", "rice", "sam", tons, "order", "ann", 1)]
    rows.append(("give", DAY, "two", "salt" if "parcel" in faults else "rice", "sam", tons, "order", "ann", 1))
    rows += [("part", DAY, "one/1", "ann", (("x", tons),)), ("part", DAY, "two/1", "ann", (("y", tons),))]
    rows += [("pass", DAY, "x", "ann", "bob")] if "not yours" in faults else []
    rows += [("take", DAY, "y", "ann")] if "spent" in faults else []
    rows += filled_with_notes(298) if "notes" in faults else []
    notes = ("x", "y", "x") if "form" in faults else ("x", "y")
    return rows, ("join", day_of(faults), "y" if "name" in faults else "z", hand_of(faults, "ann"), notes)


def on_parcel_case(deed, faults):
    rows = [FILL, ("give", DAY, "abc", "rice", "sam", 10, "order", "ann", 2)]
    stands = "stop stands" in faults or (deed == "lift" and "no stop" not in faults)
    rows += [("stop", DAY, "rice", "sam")] if stands else []
    by = "S" if "form" in faults else "bob" if "not owed" in faults else "sam"
    return rows, (deed, day_of(faults), "nowhere" if "unknown" in faults else "rice", by)


CASES = {
    "give": (give_case, ["form", "day", "unknown", "name", "full"]),
    "sign": (sign_case, ["form", "day", "unknown", "not to order", "full"]),
    "pass": (pass_case, ["form", "day", "unknown", "not yours"]),
    "take": (take_case, ["form", "day", "unknown", "spent", "broken 1", "not yours", "stopped"]),
    "part": (part_case, ["form", "day", "unknown", "name", "spent", "broken 1", "not yours", "tons", "full"]),
    "join": (join_case, ["form", "day", "unknown", "name", "spent", "not yours", "parcel", "full"]),
    "stop": (lambda faults: on_parcel_case("stop", faults), ["form", "day", "unknown", "not owed", "stop stands"]),
    "lift": (lambda faults: on_parcel_case("lift", faults), ["form", "day", "unknown", "no stop"]),
    "paid": (lambda faults: on_parcel_case("paid", faults), ["form", "day", "unknown", "not owed"]),
}
# These are never due together: a named bill's copies bear no signings, and only a hand that is owed has a stop.
NEVER_BOTH = [{"not to order", "full"}, {"not owed", "stop stands"}]


def sets_of(faults, most):
    """All sets of so many of these faults at the most, and the largest ones that can be; each in the order told."""
    chosen = [subset for size in range(most + 1) for subset in itertools.combinations(faults, size)]
    chosen += [subset for subset in itertools.combinations(faults, len(faults) - 1)] + [tuple(faults)]
    return [subset for subset in chosen if not any(pair <= set(subset) for pair in NEVER_BOTH)]


class TheOrder(LadingCase):
    def check(self, rows, row, faults, book_faults=None):
        """The first of the faults is told by each; a store does not look at the order of days."""
        with self.subTest(row=row, faults=faults):
            by_store = [fault for fault in faults if fault != "day"] + [""]
            by_book = list(faults if book_faults is None else book_faults) + [""]
            store = store_of(rows)
            self.assertEqual(tried(store.judge, row)[0], by_store[0])
            self.assertEqual(tried(store.apply, row)[0], by_store[0])
            self.assertEqual(tried(book_of(rows).write, row)[0], by_book[0])
            told = desk(list(HANDS), [line_of(each) for each in rows + [row]])
            self.assertEqual(told[-1], "refused: " + by_book[0] if by_book[0] else str(len(rows) + 1))

    def test_the_words_are_in_the_order_of_the_document(self):
        for cases, faults in CASES.values():
            places = [ORDER.index(fault.split(" 1")[0]) for fault in faults]
            self.assertEqual(places, sorted(places))

    def test_every_deed_with_each_few_faults_and_with_most_of_them(self):
        for deed, (case, faults) in CASES.items():
            for subset in sets_of(faults, 2 if deed == "part" else 3):
                rows, row = case(subset)
                self.assertEqual(row[0], deed)
                self.check(rows, row, subset)

    def test_full_by_the_other_bounds(self):
        for case, faults, bound in ((give_case, CASES["give"][1], "parcels"), (join_case, CASES["join"][1], "notes")):
            for subset in sets_of(faults[:-1], 1):
                rows, row = case(subset + (bound,))
                self.check(rows, row, subset + ("full",))

    def test_a_full_book_refuses_behind_everything_else(self):
        for deed, (case, faults) in CASES.items():
            for subset in sets_of(faults, 1)[:len(faults) + 1]:
                rows, row = case(subset)
                self.check(filled_with_rows(rows), row, subset, subset + ("full",))

    def test_a_spent_paper_with_a_broken_chain_shown_by_another_while_a_stop_stands(self):
        faults = ["spent", "broken 1", "not yours", "stopped"]
        for count in range(5):
            self.check(*take_case(faults[count:]), faults[count:])

    def test_join_a_spent_note_behind_one_that_is_another_s(self):
        rows, row = join_case(["not yours", "spent"])
        for notes in (("x", "y"), ("y", "x")):
            self.check(rows, row[:4] + (notes,), ["spent", "not yours"])
        rows, row = join_case(["not yours"])
        for notes in (("x", "y"), ("y", "x")):
            self.check(rows, row[:4] + (notes,), ["not yours"])

    def test_join_notes_of_two_parcels_with_a_sum_beyond_the_bound(self):
        self.check(*join_case(["parcel", "full"]), ["parcel", "full"])
        self.check(*join_case(["full"]), ["full"])


# For each refusal of a row: rows, a row behind them that is refused, and the word.
ABC = ("give", DAY, "abc", "rice", "sam", 10, "order", "ann", 3)
NAMED = ("give", DAY, "nmd", "rice", "sam", 10, "named", "ann", 2)
SALT = ("give", DAY, "slt", "salt", "tom", 7, "holder", "bob", 1)
PARTED = [ABC, ("part", DAY, "abc/1", "ann", (("x", 4), ("y", 6))), SALT, ("part", DAY, "slt/1", "bob", (("w", 7),)),
          ("pass", DAY, "w", "bob", "ann")]
TWELVE = [("sign", DAY, "abc/1", "ann", "ann")] * 12
EACH = [
    ([ABC], ("give", DAY, "new", "rice", "sam", 0, "order", "ann", 1), "form"),
    ([ABC], ("sign", DAY, "abc", "ann", "bob"), "form"),
    ([ABC], ("take", 100001, "abc/1", "ann"), "form"),
    ([ABC], ("take", DAY, "abc/4", "ann"), "form"),
    ([ABC], ("toss", DAY, "abc/1", "ann"), "form"),
    ([ABC], ("take", DAY, "def/1", "ann"), "unknown"),
    ([ABC], ("give", DAY, "abc", "rice", "sam", 10, "order", "ann", 1), "name"),
    (PARTED, ("part", DAY, "x", "ann", (("y", 4),)), "name"),
    ([ABC, ("take", DAY, "abc/2", "ann")], ("take", DAY, "abc/2", "ann"), "spent"),
    ([ABC, ("take", DAY, "abc/2", "ann")], ("part", DAY, "abc/1", "ann", (("x", 10),)), "spent"),
    (PARTED + [("take", DAY, "x", "ann")], ("join", DAY, "z", "ann", ("y", "x")), "spent"),
    ([ABC, ("sign", DAY, "abc/1", "bob", "cid")], ("take", DAY, "abc/1", "ann"), "broken 1"),
    ([ABC] + TWELVE[:1] + [("sign", DAY, "abc/1", "bob", "ann")], ("take", DAY, "abc/1", "ann"), "broken 2"),
    ([ABC] + TWELVE[:11] + [("sign", DAY, "abc/1", "bob", "ann")], ("part", DAY, "abc/1", "ann", (("x", 10),)),
     "broken 12"),
    ([ABC], ("pass", DAY, "abc/1", "bob", "cid"), "not yours"),
    ([ABC], ("take", DAY, "abc/1", "bob"), "not yours"),
    ([ABC, ("pass", DAY, "abc/1", "ann", "bob")], ("take", DAY, "abc/1", "bob"), "not yours"),
    ([ABC, ("sign", DAY, "abc/1", "ann", "bob")], ("take", DAY, "abc/1", "bob"), "not yours"),
    (PARTED, ("take", DAY, "x", "bob"), "not yours"),
    (PARTED, ("part", DAY, "x", "bob", (("v", 4),)), "not yours"),
    (PARTED, ("join", DAY, "z", "bob", ("x", "y")), "not yours"),
    ([NAMED], ("sign", DAY, "nmd/1", "ann", "bob"), "not to order"),
    ([NAMED], ("sign", DAY, "nmd/2", "ann", "-"), "not to order"),
    ([ABC, ("stop", DAY, "rice", "sam")], ("take", DAY, "abc/3", "ann"), "stopped"),
    (PARTED + [("stop", DAY, "rice", "sam")], ("take", DAY, "y", "ann"), "stopped"),
    ([ABC], ("part", DAY, "abc/1", "ann", (("x", 4), ("y", 5))), "tons"),
    ([ABC], ("part", DAY, "abc/1", "ann", (("x", 4), ("y", 7))), "tons"),
    ([ABC], ("part", DAY, "abc/1", "ann", tuple((name, BIG) for name in many("x", 12))), "tons"),
    (PARTED, ("part", DAY, "x", "ann", (("v", 10),)), "tons"),
    (PARTED, ("join", DAY, "z", "ann", ("x", "w")), "parcel"),
    (PARTED, ("join", DAY, "z", "ann", ("x", "y", "w")), "parcel"),
    ([ABC], ("stop", DAY, "rice", "ann"), "not owed"),
    ([ABC, ("paid", DAY, "rice", "sam")], ("stop", DAY, "rice", "sam"), "not owed"),
    ([ABC, SALT], ("stop", DAY, "rice", "tom"), "not owed"),
    ([ABC], ("paid", DAY, "rice", "ann"), "not owed"),
    ([ABC, ("paid", DAY, "rice", "sam")], ("paid", DAY, "rice", "sam"), "not owed"),
    ([ABC, SALT], ("paid", DAY, "salt", "sam"), "not owed"),
    ([ABC, ("stop", DAY, "rice", "sam")], ("stop", DAY, "rice", "sam"), "stop stands"),
    ([ABC], ("lift", DAY, "rice", "sam"), "no stop"),
    ([ABC], ("lift", DAY, "rice", "bob"), "no stop"),
    ([ABC, SALT, ("stop", DAY, "rice", "sam")], ("lift", DAY, "salt", "sam"), "no stop"),
    ([ABC, ("stop", DAY, "rice", "sam"), ("lift", DAY, "rice", "sam")], ("lift", DAY, "rice", "sam"), "no stop"),
    ([ABC, ("stop", DAY, "rice", "sam"), ("paid", DAY, "rice", "sam")], ("lift", DAY, "rice", "sam"), "no stop"),
    ([ABC] + TWELVE, ("sign", DAY, "abc/1", "ann", "bob"), "full"),
]
BY_BOOK_ALONE = ("day", "struck", "day over", "named later")


class EachRefusal(LadingCase):
    def test_each_is_tried(self):
        words = {word.split(" 1")[0].split(" 2")[0] for rows, row, word in EACH}
        self.assertEqual(words | set(BY_BOOK_ALONE), set(WORDS))
        self.assertEqual(len(WORDS), 18)

    def test_by_a_store_a_book_and_the_desk_and_a_good_row_behind_it(self):
        for rows, row, word in EACH:
            self.refused_everywhere([FILL] + rows, row, word, GOOD)

    def test_a_day_that_falls_is_refused_by_a_book_alone(self):
        for day in (0, 1, DAY - 1):
            row = ("pass", day, "abc/1", "ann", "bob")
            with self.subTest(day):
                self.refused_by_book([FILL, ABC], row, "day", GOOD)
                self.refused_by_desk([FILL, ABC], line_of(row), "day", GOOD)
                self.assertIsNone(store_of([FILL, ABC]).judge(row))
                self.assertIsNone(store_of([FILL, ABC]).apply(row))

    def test_takings_back(self):
        rows = [("give", DAY - 1) + FILL[2:], ("give", DAY - 1, "old", "rice", "sam", 3, "named", "ann", 1), ABC,
                ("take", DAY, "abc/1", "ann")]
        for day, number, word in (
            (100001, 4, "form"), (-1, 4, "form"), (DAY - 1, 4, "day"), (DAY, 0, "unknown"), (DAY, 5, "unknown"),
            (DAY, 2, "day over"), (DAY + 1, 4, "day over"), (DAY, 3, "named later"),
        ):
            with self.subTest(word=word, number=number):
                book = book_of(rows)
                told = book.rows()
                self.refused(word, book.strike, day, number)
                self.assertEqual(book.rows(), told)
                self.assertEqual(book.write(GOOD), 5)
                self.refused_by_desk(rows, f"back {day} {number}", word, GOOD)
        book = book_of(rows)
        book.strike(DAY, 4)
        self.refused("struck", book.strike, DAY, 4)
        self.assertEqual(book.write(GOOD), 5)
        lines = [line_of(row) for row in rows] + ["back 5 4", "back 5 4", line_of(GOOD)]
        self.assertEqual(desk(HANDS, lines), ["1", "2", "3", "4", "back 4", "refused: struck", "5"])


class NotKnown(LadingCase):
    ROWS = [FILL] + PARTED + [("stop", DAY, "rice", "sam")]

    def unknown(self, *rows):
        for row in rows:
            self.refused_everywhere(self.ROWS, row, "unknown", GOOD)

    def test_a_hand(self):
        self.unknown(
            ("give", DAY, "new", "rice", STRANGER, 1, "order", "ann", 1),
            ("give", DAY, "new", "rice", "sam", 1, "order", STRANGER, 1),
            ("sign", DAY, "fill/1", STRANGER, "ann"), ("sign", DAY, "fill/1", "ann", STRANGER),
            ("sign", DAY, "fill/1", STRANGER, "-"),
            ("pass", DAY, "fill/1", STRANGER, "ann"), ("pass", DAY, "fill/1", "ann", STRANGER),
            ("pass", DAY, "x", STRANGER, "ann"), ("pass", DAY, "x", "ann", STRANGER),
            ("take", DAY, "fill/1", STRANGER), ("take", DAY, "x", STRANGER),
            ("part", DAY, "fill/1", STRANGER, (("v", 1),)), ("part", DAY, "x", STRANGER, (("v", 4),)),
            ("join", DAY, "z", STRANGER, ("x", "y")),
            ("stop", DAY, "rice", STRANGER), ("lift", DAY, "rice", STRANGER), ("paid", DAY, "rice", STRANGER),
        )

    def test_a_hand_called_like_a_parcel_or_a_paper(self):
        self.unknown(("pass", DAY, "fill/1", "ann", "rice"), ("pass", DAY, "fill/1", "ann", "abc"),
                     ("take", DAY, "x", "x"), ("stop", DAY, "rice", "rice"))

    def test_a_parcel(self):
        for deed in ("stop", "lift", "paid"):
            self.unknown((deed, DAY, "nowhere", "sam"), (deed, DAY, "abc", "sam"), (deed, DAY, "x", "sam"),
                         (deed, DAY, "sam", "sam"))

    def test_a_bill_or_a_note(self):
        self.unknown(
            ("sign", DAY, "none/1", "ann", "bob"), ("pass", DAY, "none/1", "ann", "bob"),
            ("take", DAY, "none/1", "ann"),
            ("part", DAY, "none/1", "ann", (("v", 1),)), ("pass", DAY, "none", "ann", "bob"),
            ("take", DAY, "none", "ann"),
            ("part", DAY, "none", "ann", (("v", 1),)), ("join", DAY, "z", "ann", ("none", "x")),
            ("join", DAY, "z", "ann", ("x", "none")), ("join", DAY, "z", "ann", ("x", "y", "w", "none")),
            ("take", DAY, "rice", "ann"), ("take", DAY, "ann", "ann"),
        )

    def test_a_number_above_the_bill_s_copies(self):
        for number in (2, 3):
            self.unknown(
                ("sign", DAY, f"fill/{number}", "ann", "bob"), ("pass", DAY, f"fill/{number}", "ann", "bob"),
                ("take", DAY, f"fill/{number}", "ann"), ("part", DAY, f"fill/{number}", "ann", (("v", 1),)),
            )

    def test_every_number_up_to_the_bill_s_copies_and_none_above(self):
        for copies in (1, 2, 3):
            rows = [("give", DAY, "abc", "rice", "sam", 10, "order", "ann", copies)]
            for number in (1, 2, 3):
                word = "" if number <= copies else "unknown"
                self.assertEqual(tried(store_of(rows).judge, ("take", DAY, f"abc/{number}", "ann"))[0], word)

    def test_a_bill_s_name_told_as_a_note(self):
        self.unknown(
            ("pass", DAY, "fill", "ann", "bob"), ("take", DAY, "fill", "ann"),
            ("part", DAY, "fill", "ann", (("v", 1),)),
            ("join", DAY, "z", "ann", ("x", "fill")), ("join", DAY, "z", "ann", ("fill", "x")),
            ("take", DAY, "abc", "ann"),
        )

    def test_a_note_s_name_told_as_a_copy(self):
        for number in (1, 2, 3):
            self.unknown(
                ("sign", DAY, f"x/{number}", "ann", "bob"), ("pass", DAY, f"x/{number}", "ann", "bob"),
                ("take", DAY, f"x/{number}", "ann"), ("part", DAY, f"x/{number}", "ann", (("v", 4),)),
            )

    def test_a_new_note_among_those_that_are_joined(self):
        self.unknown(("join", DAY, "z", "ann", ("z", "x")), ("join", DAY, "z", "ann", ("x", "z")))

    def test_what_may_be_new(self):
        self.done_everywhere(self.ROWS, ("give", DAY, "new", "fresh", "sam", 1, "order", "ann", 1))
        self.done_everywhere(self.ROWS, ("part", DAY, "x", "ann", (("new", 4),)))
        self.done_everywhere(self.ROWS, ("join", DAY, "new", "ann", ("x", "y")))


class NamesThatAreTaken(LadingCase):
    # Bills and notes, each unspent and spent in each way.
    ROWS = [
        FILL,
        ("give", DAY, "opn", "rice", "sam", 9, "order", "ann", 1),
        ("give", DAY, "tkn", "rice", "sam", 9, "order", "ann", 1), ("take", DAY, "tkn/1", "ann"),
        ("give", DAY, "prt", "rice", "sam", 9, "order", "ann", 1),
        ("part", DAY, "prt/1", "ann", (("a", 1), ("b", 1), ("c", 1), ("d", 1), ("e", 1), ("f", 1), ("g", 3))),
        ("take", DAY, "b", "ann"), ("part", DAY, "c", "ann", (("h", 1),)), ("join", DAY, "i", "ann", ("d", "e")),
        ("take", DAY, "i", "ann"),
    ]
    TAKEN = ["opn", "tkn", "prt", "a", "b", "c", "d", "i", "h"]

    def test_a_bill_or_a_new_note_called_like_a_bill_or_a_note(self):
        for name in self.TAKEN:
            for row in (
                ("give", DAY, name, "rice", "sam", 1, "order", "ann", 1),
                ("give", DAY, name, "fresh", "sam", 1, "order", "ann", 3),
                ("part", DAY, "opn/1", "ann", ((name, 9),)),
                ("part", DAY, "opn/1", "ann", (("u", 4), (name, 5))),
                ("part", DAY, "g", "ann", ((name, 1), ("u", 2))),
                ("join", DAY, name, "ann", ("f", "g")),
            ):
                self.refused_everywhere(self.ROWS, row, "name", GOOD)

    def test_a_new_note_called_like_the_paper_itself(self):
        for row in (("part", DAY, "g", "ann", (("g", 3),)), ("part", DAY, "opn/1", "ann", (("opn", 9),)),
                    ("join", DAY, "f", "ann", ("f", "g")), ("join", DAY, "g", "ann", ("f", "g"))):
            self.refused_everywhere(self.ROWS, row, "name", GOOD)

    def test_names_of_hands_and_parcels_are_free_for_papers(self):
        for name in ("ann", "sam", "rice", "ballast", STRANGER):
            for row in (("give", DAY, name, name, "sam", 1, "order", "ann", 1), ("part", DAY, "g", "ann", ((name, 3),)),
                        ("join", DAY, name, "ann", ("f", "g"))):
                self.done_everywhere(self.ROWS, row)

    def test_names_of_papers_and_hands_are_free_for_parcels(self):
        for name in ("opn", "tkn", "a", "b", "ann", "sam"):
            self.done_everywhere(self.ROWS, ("give", DAY, "new", name, "sam", 1, "order", "ann", 1))


class Bounds(LadingCase):
    """Point 20: each bound at itself, and one beyond."""

    def at_and_beyond(self, rows, last, beyond):
        """The last row comes to the bound and is done; the one beyond is refused and changes nothing."""
        self.done_everywhere(rows, last)
        store = store_of(rows + [last])
        self.assertEqual(tried(store.judge, beyond)[0], "full")
        self.assertEqual(tried(store.apply, beyond)[0], "full")
        self.refused_everywhere(rows + [last], beyond, "full", GOOD)

    def test_sixty_parcels(self):
        rows = [FILL] + filled_with_parcels(58)
        last = ("give", DAY, "new", "fresh", "sam", 1, "order", "ann", 1)
        self.at_and_beyond(rows, last, ("give", DAY, "newer", "fresher", "sam", 1, "order", "ann", 1))
        self.done_everywhere(rows + [last], ("give", DAY, "newer", "fresh", "sam", 1, "order", "ann", 1))

    def test_a_parcel_of_which_all_is_taken_counts(self):
        rows = [FILL] + filled_with_parcels(59)
        rows += [("take", DAY, row[2] + "/1", "ann") for row in rows[1:30]]
        self.refused_everywhere(rows, ("give", DAY, "new", "fresh", "sam", 1, "order", "ann", 1), "full", GOOD)

    def test_a_hundred_bills(self):
        rows = [FILL] + filled_with_bills(98)
        self.at_and_beyond(rows, ("give", DAY, "new", "rice", "sam", 1, "order", "ann", 3),
                           ("give", DAY, "newer", "rice", "sam", 1, "order", "ann", 1))

    def test_spent_bills_count(self):
        rows = [FILL] + filled_with_bills(99)
        rows += [("take", DAY, row[2] + "/1", "ann") for row in rows[1:30]]
        self.refused_everywhere(rows, ("give", DAY, "new", "rice", "sam", 1, "order", "ann", 1), "full", GOOD)

    def test_three_hundred_notes_by_part(self):
        rows = [FILL, ABC] + filled_with_notes(298)
        two = ("part", DAY, "abc/1", "ann", (("x", 4), ("y", 6)))
        self.at_and_beyond(rows, two, ("part", DAY, "x", "ann", (("v", 4),)))
        self.refused_everywhere(rows, ("part", DAY, "abc/1", "ann", (("x", 4), ("y", 5), ("w", 1))), "full", GOOD)

    def test_three_hundred_notes_by_join(self):
        rows = [FILL] + filled_with_notes(299)
        names = many("n", 299)
        self.at_and_beyond(rows, ("join", DAY, "z", "ann", (names[0], names[1])),
                           ("join", DAY, "zz", "ann", (names[2], names[3])))

    def test_twelve_signings(self):
        for signings in (TWELVE, [("sign", DAY, "abc/1", "bob", "-")] * 12):
            self.at_and_beyond([FILL, ABC] + signings[:11], signings[11], signings[11])
            # Each copy has its own signings.
            self.done_everywhere([FILL, ABC] + signings, ("sign", DAY, "abc/2", "ann", "bob"))
            self.done_everywhere([FILL, ABC] + signings, ("pass", DAY, "abc/1", "ann", "bob"))

    def joined(self, tons):
        rows = [FILL]
        for name, amount in zip("ab", tons):
            rows.append(("give", DAY, "bill" + name, "rice", "sam", amount, "order", "ann", 1))
            rows.append(("part", DAY, "bill" + name + "/1", "ann", ((name, amount),)))
        return rows, ("join", DAY, "z", "ann", ("a", "b"))

    def test_tons_on_a_joined_note(self):
        for tons in ((BIG - 1, 1), (1, BIG - 1), (BIG // 2, BIG // 2)):
            self.done_everywhere(*self.joined(tons))
        for tons in ((BIG, 1), (1, BIG), (BIG // 2 + 1, BIG // 2), (BIG, BIG)):
            self.refused_everywhere(*self.joined(tons), "full", GOOD)

    def test_tons_of_a_parcel_have_no_bound(self):
        rows = [("give", DAY, name, "rice", "sam", BIG, "order", "ann", 3) for name in many("b", 5)]
        self.done_everywhere(rows, ("give", DAY, "new", "rice", "sam", BIG, "order", "ann", 1))

    def test_a_bill_of_the_most_tons_parted_whole(self):
        rows = [("give", DAY, "abc", "rice", "sam", BIG, "order", "ann", 3)]
        self.done_everywhere(rows, ("part", DAY, "abc/1", "ann", (("x", BIG),)))
        self.done_everywhere(rows, ("part", DAY, "abc/1", "ann", (("x", 1), ("y", BIG - 1))))

    def test_three_hundred_rows_in_a_book(self):
        rows = filled_with_rows([FILL])
        book = book_of(rows[:299])
        self.assertEqual(book.write(GOOD), 300)
        told = book.rows()
        self.refused("full", book.write, GOOD)
        self.refused("full", book.write, ("give", 99, "new", "rice", "sam", 1, "order", "ann", 1))
        self.assertEqual(book.rows(), told)
        self.assertEqual(book.last_day(), DAY)
        answers = desk(HANDS, [line_of(row) for row in rows + [GOOD, GOOD]])
        self.assertEqual(answers, [str(number) for number in range(1, 301)] + ["refused: full"] * 2)

    def test_rows_taken_back_count(self):
        book = book_of(filled_with_rows([FILL])[:299])
        for number in range(299, 199, -1):
            self.assertEqual(book.strike(DAY, number), GOOD)
        self.assertEqual(book.write(GOOD), 300)
        self.refused("full", book.write, GOOD)
        self.assertEqual(book.strike(DAY, 300), GOOD)
        self.refused("full", book.write, GOOD)
        self.assertEqual(len(book.rows()), 300)

    def test_a_store_has_no_bound_on_rows(self):
        store = store_of([FILL] + [GOOD] * 400)
        self.assertIsNone(store.apply(GOOD))


if __name__ == "__main__":
    unittest.main()
