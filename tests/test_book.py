"""Points 1, 7 and 22 to 24: rows written and taken back, and stores as they stood at the end of a day."""

import unittest

from helper import HANDS, STRANGER, LadingCase, Telling, all_answers, all_of_book, book_of, standing, tried
from ladingchain.answers import account_of, all_papers, paper_of, stops_of, why_not
from ladingchain.book import Book
from ladingchain.store import Store

ABC = ("give", 5, "abc", "rice", "sam", 10, "order", "ann", 2)
DEF = ("give", 5, "def", "rice", "tom", 6, "holder", "ann", 1)
FAR = ("give", 5, "far", "salt", "sam", 4, "named", "bob", 1)
PARTED = ("part", 5, "abc/1", "ann", (("x", 4), ("y", 6)))
SPLIT = ("part", 5, "def/1", "ann", (("u", 2), ("v", 4)))


class Writing(LadingCase):
    def test_a_new_book(self):
        book = Book(list(HANDS))
        self.assertEqual(book.rows(), [])
        self.assertEqual(book.last_day(), 0)
        self.assertIs(type(book.last_day()), int)
        for day in (0, 1, 100000):
            self.assertEqual(all_papers(book.at(day)), [])

    def test_numbers_from_one_on(self):
        book = Book(list(HANDS))
        for number, row in enumerate([ABC, DEF, FAR, PARTED], start=1):
            self.assertEqual(book.write(row), number)
            self.refused("name", book.write, ABC)
        self.assertEqual(book.rows(), [(ABC, True), (DEF, True), (FAR, True), (PARTED, True)])
        self.assertEqual({type(stands) for row, stands in book.rows()}, {bool})
        self.assertEqual({type(told) for told in book.rows()}, {tuple})

    def test_days_that_stay_rise_and_fall(self):
        book = Book(list(HANDS))
        for day, word in ((0, ""), (0, ""), (3, ""), (2, "day"), (0, "day"), (3, ""), (100000, ""), (99999, "day"),
                          (100000, ""), (0, "day")):
            number = len(book.rows()) + 1
            name = "abcdefghijk"[number]
            row = ("give", day, name, "rice", "sam", 1, "order", "ann", 1)
            last = book.last_day()
            with self.subTest(day=day):
                self.assertEqual(tried(book.write, row), (word, None if word else number))
                self.assertEqual(book.last_day(), last if word else day)

    def test_a_refused_row_moves_no_day(self):
        book = book_of([ABC])
        self.refused("unknown", book.write, ("take", 50, "abc/1", STRANGER))
        self.refused("spent", book_of([ABC, ("take", 5, "abc/1", "ann")]).write, ("take", 50, "abc/1", "ann"))
        self.refused("form", book.write, ("take", 100001, "abc/1", "ann"))
        self.assertEqual(book.last_day(), 5)
        self.assertEqual(book.write(PARTED), 2)

    def test_the_last_day_stays_behind_a_taking_back(self):
        book = book_of([ABC, ("pass", 9, "abc/1", "ann", "bob")])
        book.strike(9, 2)
        self.assertEqual(book.last_day(), 9)
        self.refused("day", book.write, ("pass", 8, "abc/1", "ann", "bob"))
        self.refused("day", book.strike, 8, 1)
        self.refused("day over", book.strike, 9, 1)
        self.assertEqual(book.write(("pass", 9, "abc/1", "ann", "cid")), 3)
        self.assertEqual(paper_of(book.at(9), "abc/1")[2], "cid")

    def test_a_book_whose_rows_are_all_taken_back(self):
        book = book_of([ABC])
        self.assertEqual(book.strike(5, 1), ABC)
        self.assertEqual(book.last_day(), 5)
        self.assertEqual(book.rows(), [(ABC, False)])
        self.assertEqual(all_papers(book.at(5)), [])
        self.refused("day", book.write, ("give", 4) + ABC[2:])

    def test_rows_that_were_told_are_changed(self):
        book = book_of([ABC, DEF])
        told = book.rows()
        told.append((FAR, True))
        told[0] = (FAR, False)
        self.assertEqual(book.rows(), [(ABC, True), (DEF, True)])
        kept = book.rows()
        book.strike(5, 2)
        book.write(FAR)
        self.assertEqual(kept, [(ABC, True), (DEF, True)])
        self.assertEqual(book.rows(), [(ABC, True), (DEF, False), (FAR, True)])


class Striking(LadingCase):
    def strike(self, rows, number, word, day=5):
        """The row with this number is taken back, or refused with the word; then all is as it must be."""
        with self.subTest(rows=rows, number=number):
            book = book_of(rows)
            before = all_of_book(book)
            told = tried(book.strike, day, number)
            if word:
                self.assertEqual(told, (word, None))
                self.assertEqual(all_of_book(book), before)
                self.refused(word, book.strike, day, number)
                return
            self.assertEqual(told, ("", rows[number - 1]))
            self.assertEqual(book.rows(), [(row, place != number) for place, row in enumerate(rows, start=1)])
            self.assertEqual(book.last_day(), rows[-1][1])
            left = rows[:number - 1] + rows[number:]
            for each in (0, day - 1, day, rows[-1][1], 100000):
                here = [row for row in left if row[1] <= each]
                self.assertEqual(all_answers(book.at(each)), Telling(here).all_answers())
            self.refused("struck", book.strike, day, number)

    def test_each_way_of_being_refused(self):
        rows = [("give", 4, "old", "rice", "sam", 1, "named", "ann", 1), ABC, PARTED]
        for day in (-1, -100000, 100001, 10 ** 30):
            self.strike(rows, 3, "form", day)
        for day in (0, 3, 4):
            self.strike(rows, 3, "day", day)
        for number in (0, -1, -3, 4, 5, 100000, 10 ** 30, -10 ** 30):
            self.strike(rows, number, "unknown")
        self.strike(rows, 1, "day over")
        for day in (6, 100000):
            self.strike(rows, 3, "day over", day)
        self.strike(rows, 2, "named later")
        self.strike(rows, 3, "")

    def test_their_order(self):
        rows = [("give", 4, "old", "rice", "sam", 1, "named", "ann", 1), ("pass", 4, "old/1", "ann", "bob"), ABC,
                PARTED]
        book = book_of(rows)
        self.assertEqual(book.strike(5, 4), PARTED)
        asked = [
            (-1, 9, "form"), (100001, 9, "form"), (100001, 4, "form"), (-1, 4, "form"), (-1, 1, "form"),
            (4, 9, "day"), (4, 4, "day"), (4, 1, "day"), (4, 0, "day"), (0, 3, "day"),
            (5, 9, "unknown"), (6, 9, "unknown"), (6, 0, "unknown"), (100000, -1, "unknown"),
            (5, 4, "struck"), (6, 4, "struck"), (100000, 4, "struck"),
            (5, 1, "day over"), (5, 2, "day over"), (6, 3, "day over"), (6, 1, "day over"),
        ]
        before = all_of_book(book)
        for day, number, word in asked:
            with self.subTest(day=day, number=number):
                self.refused(word, book.strike, day, number)
                self.assertEqual(all_of_book(book), before)

    def test_day_over_goes_ahead_of_named_later(self):
        book = book_of([ABC, ("pass", 6, "abc/1", "ann", "bob")])
        self.refused("day over", book.strike, 6, 1)

    def test_an_empty_book(self):
        book = Book(list(HANDS))
        for number in (0, 1, -1):
            self.refused("unknown", book.strike, 0, number)
        self.refused("form", book.strike, -1, 1)

    def test_the_last_row_of_each_deed(self):
        before = [ABC, DEF, PARTED, SPLIT, ("stop", 5, "rice", "sam")]
        for row in (
            ("give", 5, "new", "tin", "bob", 3, "order", "ann", 3),
            ("give", 5, "new", "rice", "bob", 3, "order", "ann", 3),
            ("sign", 5, "abc/2", "ann", "bob"), ("pass", 5, "abc/2", "ann", "bob"), ("pass", 5, "x", "ann", "bob"),
            ("part", 5, "x", "ann", (("p", 1), ("q", 3))), ("join", 5, "z", "ann", ("x", "v")),
            ("stop", 5, "rice", "tom"), ("lift", 5, "rice", "sam"), ("paid", 5, "rice", "sam"),
            ("paid", 5, "rice", "tom"),
        ):
            self.strike(before + [row], 6, "")
        self.strike([ABC, ("take", 5, "abc/2", "ann")], 2, "")
        self.strike([ABC, PARTED, ("take", 5, "x", "ann")], 3, "")

    def test_named_later_by_each_deed(self):
        for first in (ABC, ("give", 5, "abc", "rice", "sam", 10, "holder", "ann", 3)):
            for later in (
                ("sign", 5, "abc/1", "ann", "bob"), ("sign", 5, "abc/2", "bob", "-"),
                ("pass", 5, "abc/2", "ann", "ann"),
                ("take", 5, "abc/1", "ann"), ("take", 5, "abc/2", "ann"), PARTED, ("stop", 5, "rice", "sam"),
                ("paid", 5, "rice", "sam"),
            ):
                self.strike([first, later], 1, "named later")
                self.strike([first, FAR, later], 1, "named later")

    def test_a_part_is_named_later_by_what_is_done_with_its_notes_or_its_bill(self):
        before = [ABC, DEF, SPLIT, PARTED]
        for later in (
            ("pass", 5, "x", "ann", "bob"), ("take", 5, "y", "ann"), ("part", 5, "y", "ann", (("q", 6),)),
            ("join", 5, "z", "ann", ("u", "y")), ("join", 5, "z", "ann", ("x", "u")),
            ("sign", 5, "abc/2", "ann", "bob"),
            ("pass", 5, "abc/1", "ann", "bob"), ("stop", 5, "rice", "tom"), ("paid", 5, "rice", "tom"),
        ):
            self.strike(before + [later], 4, "named later")
        for later in (("pass", 5, "u", "ann", "bob"), ("take", 5, "v", "ann"), FAR, ("pass", 5, "def/1", "ann", "bob")):
            self.strike(before + [later], 4, "")

    def test_a_join_is_named_later_by_what_is_done_with_any_of_its_notes(self):
        before = [ABC, PARTED, ("join", 5, "z", "ann", ("x", "y"))]
        for later in (("pass", 5, "z", "ann", "bob"), ("take", 5, "z", "ann"), ("part", 5, "z", "ann", (("q", 10),)),
                      ("pass", 5, "x", "ann", "bob"), ("stop", 5, "rice", "sam")):
            self.strike(before + [later], 3, "named later")
            self.strike(before + [later], 2, "named later")
        self.strike(before + [("pass", 5, "abc/2", "ann", "bob")], 3, "")

    def test_a_signing_is_named_later_by_what_is_done_with_another_copy(self):
        self.strike([ABC, ("sign", 5, "abc/1", "ann", "bob"), ("pass", 5, "abc/2", "ann", "cid")], 2, "named later")
        self.strike([ABC, ("pass", 5, "abc/2", "ann", "bob"), ("sign", 5, "abc/1", "ann", "cid")], 2, "named later")

    def test_a_note_called_like_a_hand_or_a_parcel_is_no_hand_and_no_parcel(self):
        rows = [ABC, ("part", 5, "abc/1", "ann", (("ann", 4), ("salt", 6))), FAR, ("pass", 5, "far/1", "bob", "ann"),
                ("stop", 5, "salt", "sam")]
        self.strike(rows, 2, "")

    def test_stop_lift_and_paid_name_every_paper_of_their_parcel(self):
        stop, lift, paid = [(deed, 5, "rice", "sam") for deed in ("stop", "lift", "paid")]
        for rows, number in (([ABC, stop], 1), ([ABC, stop, lift], 1), ([ABC, paid], 1), ([ABC, DEF, stop], 2)):
            self.strike(rows, number, "named later")
        for rows, number in (([ABC, stop, lift], 2), ([ABC, stop, paid], 2),
                             ([ABC, DEF, stop, ("stop", 5, "rice", "tom")], 3),
                             ([ABC, stop, lift, stop], 3), ([ABC, DEF, paid, ("paid", 5, "rice", "tom")], 3)):
            self.strike(rows, number, "named later")
        self.strike([ABC, FAR, stop], 2, "")
        self.strike([ABC, FAR, stop, ("stop", 5, "salt", "sam")], 3, "")
        self.strike([ABC, FAR, ("paid", 5, "salt", "sam"), stop], 3, "")

    def test_the_same_taken_back_themselves_while_a_later_row_names_a_paper_of_the_parcel(self):
        stops = [("stop", 5, "rice", "sam")]
        for ahead in (stops, stops + [("lift", 5, "rice", "sam")], [("paid", 5, "rice", "sam")]):
            number = 1 + len(ahead)
            before = [ABC] + ahead
            for later in (
                [("pass", 5, "abc/1", "ann", "bob")], [("sign", 5, "abc/2", "ann", "bob")], [PARTED], [DEF],
                [DEF, SPLIT], [("give", 5, "new", "rice", "bob", 1, "named", "bob", 1)],
            ):
                self.strike(before + later, number, "named later")
            self.strike(before + [FAR], number, "")
            self.strike(before + [FAR, ("pass", 5, "far/1", "bob", "ann")], number, "")

    def test_papers_made_later_count_also_where_the_row_that_made_them_is_gone_over(self):
        # The note z is made behind the stop and is named by the last row alone.
        rows = [ABC, PARTED, ("stop", 5, "rice", "sam"), ("join", 5, "z", "ann", ("x", "y")),
                ("pass", 5, "z", "ann", "bob")]
        self.strike(rows, 3, "named later")
        book = book_of(rows)
        book.strike(5, 5)
        book.strike(5, 4)
        self.assertEqual(book.strike(5, 3), rows[2])

    def test_rows_taken_back_name_nothing(self):
        book = book_of([ABC, ("pass", 5, "abc/1", "ann", "bob"), ("take", 5, "abc/2", "ann")])
        self.refused("named later", book.strike, 5, 1)
        self.refused("named later", book.strike, 5, 2)
        book.strike(5, 3)
        self.refused("named later", book.strike, 5, 1)
        book.strike(5, 2)
        self.assertEqual(book.strike(5, 1), ABC)
        self.assertEqual(book.rows(), [(ABC, False), (("pass", 5, "abc/1", "ann", "bob"), False),
                                       (("take", 5, "abc/2", "ann"), False)])

    def test_the_first_bill_of_a_parcel_while_a_second_one_stands(self):
        book = book_of([ABC, DEF])
        self.assertEqual(book.strike(5, 1), ABC)
        self.assertEqual(all_answers(book.at(5)), Telling([DEF]).all_answers())
        self.refused("not owed", book.write, ("stop", 5, "rice", "sam"))
        self.assertEqual(book.write(("stop", 5, "rice", "tom")), 3)

    def test_a_name_that_is_free_again(self):
        book = book_of([ABC])
        self.refused("name", book.write, ("give", 5, "abc", "salt", "tom", 3, "holder", "bob", 1))
        book.strike(5, 1)
        self.refused("unknown", book.write, ("take", 5, "abc/1", "ann"))
        self.refused("unknown", book.write, ("stop", 5, "rice", "sam"))
        self.assertEqual(book.write(("give", 5, "abc", "salt", "tom", 3, "holder", "bob", 1)), 2)
        self.assertEqual(paper_of(book.at(5), "abc/1"), ("salt", 3, "bob", False))
        # A stop on the parcel of the row that was taken back has nothing to do with the new bill.
        book.write(DEF)
        book.write(("stop", 5, "rice", "tom"))
        self.assertEqual(book.strike(5, 2)[3], "salt")
        self.assertEqual(book.write(("give", 5, "abc", "rice", "tom", 3, "holder", "bob", 1)), 5)
        self.refused("named later", book.strike, 5, 4)

    def test_names_of_notes_that_are_free_again(self):
        book = book_of([ABC, PARTED])
        book.strike(5, 2)
        self.assertEqual(why_not(book.at(5), "abc/1", "ann"), "")
        self.refused("unknown", book.write, ("take", 5, "x", "ann"))
        self.assertEqual(book.write(("give", 5, "x", "salt", "sam", 1, "order", "bob", 1)), 3)
        self.assertEqual(book.write(("part", 5, "abc/2", "ann", (("y", 10),))), 4)
        self.refused("name", book.write, ("give", 5, "y", "salt", "sam", 1, "order", "bob", 1))

    def test_room_that_is_there_again(self):
        rows = [("give", 5, one + other, "rice", "sam", 1, "named", "ann",
                 1) for one in "abcdefghij" for other in "klmnopqrst"]
        book = book_of(rows)
        self.refused("full", book.write, ABC)
        book.strike(5, 50)
        self.assertEqual(book.write(ABC), 101)
        self.refused("full", book.write, DEF)

    def test_all_stands_as_if_it_had_not_been_written(self):
        rows = [ABC, DEF, FAR, ("stop", 5, "salt", "sam"), PARTED, SPLIT, ("take", 5, "x", "ann")]
        for number, word in ((1, "named later"), (2, "named later"), (3, "named later"), (4, ""), (5, "named later"),
                             (6, ""), (7, "")):
            self.strike(rows, number, word)


class AtTheEndOfADay(LadingCase):
    ROWS = [
        ("give", 3, "abc", "rice", "sam", 10, "order", "ann", 2), ("sign", 3, "abc/1", "ann", "bob"),
        ("pass", 5, "abc/1", "ann", "bob"), ("stop", 5, "rice", "sam"),
        ("part", 5, "abc/1", "bob", (("x", 4), ("y", 6))),
        ("lift", 9, "rice", "sam"), ("take", 9, "x", "bob"), ("give", 9, "def", "rice", "sam", 1, "order", "ann", 1),
        ("part", 12, "y", "bob", (("v", 6),)), ("paid", 12, "rice", "sam"),
    ]

    def test_each_day_the_days_between_and_the_ends(self):
        book = book_of(self.ROWS)
        for day in list(range(15)) + [99999, 100000]:
            with self.subTest(day):
                here = [row for row in self.ROWS if row[1] <= day]
                store = book.at(day)
                self.assertIs(type(store), Store)
                self.assertEqual(all_answers(store), Telling(here).all_answers())
        self.assertEqual(all_papers(book.at(2)), [])
        self.assertEqual(all_papers(book.at(3)), ["abc/1", "abc/2"])
        self.assertEqual(account_of(book.at(8), "rice"), (10, 0, 10, 0))
        self.assertEqual(account_of(book.at(9), "rice"), (11, 4, 6, 1))
        self.assertEqual([stops_of(book.at(day), "rice") for day in (4, 5, 8, 9)], [[], ["sam"], ["sam"], []])

    def test_days_0_and_100000_written(self):
        book = book_of([("give", 0) + ABC[2:], ("give", 100000) + FAR[2:]])
        self.assertEqual(all_papers(book.at(0)), ["abc/1", "abc/2"])
        self.assertEqual(all_papers(book.at(99999)), ["abc/1", "abc/2"])
        self.assertEqual(all_papers(book.at(100000)), ["abc/1", "abc/2", "far/1"])

    def test_days_outside(self):
        for book in (Book(list(HANDS)), book_of(self.ROWS)):
            before = all_of_book(book)
            for day in (-1, -2, -100000, 100001, 100002, 10 ** 30):
                self.refused("form", book.at, day)
            self.assertEqual(all_of_book(book), before)

    def test_what_is_done_to_that_store_leaves_the_book_as_it_is(self):
        book = book_of(self.ROWS)
        before = all_of_book(book)
        for day in (0, 3, 5, 9, 12, 100000):
            store = book.at(day)
            for row in (("give", 1, "new", "rice", "tom", 1, "holder", "cid", 3), ("stop", 1, "rice", "tom"),
                        ("sign", 1, "new/1", "cid", "-"), ("part", 1, "new/2", "cid", (("n", 1),)),
                        ("pass", 1, "n", "cid", "ann")):
                store.apply(row)
            if day >= 3:
                tried(store.apply, ("sign", 1, "abc/2", "ann", "cid"))
                tried(store.apply, ("pass", 1, "abc/2", "ann", "cid"))
            self.assertEqual(all_of_book(book), before)
        self.assertEqual(book.write(("give", 12, "new", "tin", "tom", 1, "holder", "cid", 3)), 11)

    def test_that_store_stays_as_it_was_when_the_book_goes_on(self):
        book = book_of(self.ROWS[:5])
        stores = {day: book.at(day) for day in (0, 3, 5, 100000)}
        before = {day: all_answers(store) for day, store in stores.items()}
        for row in self.ROWS[5:]:
            book.write(row)
        book.strike(12, 10)
        book.strike(12, 9)
        self.assertEqual({day: all_answers(store) for day, store in stores.items()}, before)

    def test_two_stores_of_one_day_are_apart(self):
        book = book_of(self.ROWS)
        one, other = book.at(12), book.at(12)
        self.assertIsNot(one, other)
        before = all_answers(other)
        one.apply(("take", 12, "v", "bob"))
        one.apply(("sign", 12, "abc/2", "ann", "cid"))
        self.assertEqual(all_answers(other), before)

    def test_days_that_are_over_keep_their_answers(self):
        book = Book(list(HANDS))
        over = {}
        for row in self.ROWS:
            if row[1] > book.last_day():
                for day in range(book.last_day(), row[1]):
                    over[day] = all_answers(book.at(day))
            book.write(row)
            for number in range(1, len(book.rows()) + 1):
                if book.rows()[number - 1][0][1] < book.last_day():
                    for day in range(book.last_day() + 2):
                        self.assertNotEqual(tried(book.strike, day, number)[0], "")
            self.assertEqual({day: all_answers(book.at(day)) for day in over}, over)
        while tried(book.strike, 12, len(standing(book)))[0] == "":
            self.assertEqual({day: all_answers(book.at(day)) for day in over if day < 12},
                             {day: told for day, told in over.items() if day < 12})
        self.assertEqual(standing(book), self.ROWS[:8])

    def test_rows_taken_back_are_gone_from_their_day_and_all_behind_it(self):
        book = book_of(self.ROWS)
        book.strike(12, 10)
        self.assertEqual(all_answers(book.at(12)), Telling(self.ROWS[:9]).all_answers())
        self.assertEqual(all_answers(book.at(100000)), Telling(self.ROWS[:9]).all_answers())
        self.assertEqual(all_answers(book.at(11)), Telling(self.ROWS[:8]).all_answers())


if __name__ == "__main__":
    unittest.main()
