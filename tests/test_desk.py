"""Points 1, 4 and 32 to 35: lines handed to the desk, and its answers."""

import re
import unittest

from helper import HANDS, STRANGER, WORDS, LadingCase
from ladingchain.desk import desk

ROWS = [
    "give 1 abc rice sam 100 order ann 3", "give 1 one rice tom 5 holder bob 1", "give 1 two salt sam 7 named ann 2",
    "sign 2 abc/1 ann bob", "sign 2 abc/2 bob cid", "part 3 one/1 bob x:2 y:3", "take 4 y bob", "stop 4 rice tom",
    "lift 6 rice tom", "pass 6 abc/1 ann bob", "part 7 abc/1 bob u:60 v:40", "pass 7 x bob cid", "pass 7 v bob cid",
    "join 8 z cid x v", "take 8 two/2 ann", "paid 9 rice sam", "stop 9 rice tom",
]
NUMBERS = [str(number + 1) for number in range(len(ROWS))]

# Each question for what stands in the rows above, and its answer.
ASKED = {
    "who 0": "-", "who 1": "abc/1 ann rice 100, abc/2 ann rice 100, abc/3 ann rice 100, one/1 bob rice 5, "
    "two/1 ann salt 7, two/2 ann salt 7", "who 2": "abc/3 ann rice 100, one/1 bob rice 5, two/1 ann salt 7, "
    "two/2 ann salt 7", "who 4": "two/1 ann salt 7, two/2 ann salt 7",
    "who 6": "abc/1 bob rice 100, abc/3 ann rice 100, two/1 ann salt 7, two/2 ann salt 7, x bob rice 2",
    "who 8": "u bob rice 60, z cid rice 42", "who 9": "-", "who 100000": "-",
    "why 1 abc/1 ann": "can", "why 2 abc/1 ann": "not yours", "why 2 abc/2 ann": "broken 1",
    "why 4 abc/3 ann": "stopped",
    "why 4 abc/3 bob": "not yours", "why 4 y bob": "spent", "why 4 one/1 bob": "spent", "why 8 abc/2 ann": "spent",
    "why 8 z cid": "can", "why 9 z cid": "stopped", "why 3 x bob": "can", "why 3 x ann": "not yours",
    "paper 1 abc/1": "rice 100 ann unspent", "paper 6 abc/1": "rice 100 bob unspent",
    "paper 7 abc/1": "rice 100 bob spent",
    "paper 7 abc/2": "rice 100 ann spent", "paper 3 y": "rice 3 bob unspent", "paper 4 y": "rice 3 bob spent",
    "paper 8 z": "rice 42 cid unspent", "paper 1 two/2": "salt 7 ann unspent",
    "chain 1 abc/1": "whole ann", "chain 2 abc/1": "whole bob", "chain 2 abc/2": "broken 1",
    "chain 100000 abc/2": "broken 1",
    "chain 1 one/1": "whole bob", "chain 9 two/2": "whole ann",
    "bill 1 abc": "open", "bill 6 abc": "open", "bill 7 abc": "parted 1 bob 7", "bill 3 one": "parted 1 bob 3",
    "bill 7 two": "open", "bill 8 two": "taken 2 ann 8", "bill 100000 two": "taken 2 ann 8",
    "heirs 2 one": "-", "heirs 3 one": "x y", "heirs 4 one": "x", "heirs 8 one": "z", "heirs 7 abc": "u v",
    "heirs 8 abc": "u z", "heirs 8 two": "-",
    "roots 3 x": "one", "roots 4 y": "one", "roots 8 z": "abc one", "roots 8 u": "abc",
    "store 1 rice": "105", "store 4 rice": "102", "store 1 salt": "7", "store 8 salt": "0",
    "account 1 rice": "105 0 0 105", "account 3 rice": "105 0 5 100", "account 4 rice": "105 3 2 100",
    "account 7 rice": "105 3 102 0", "account 8 salt": "7 7 0 0",
    "stops 3 rice": "-", "stops 4 rice": "tom", "stops 5 rice": "tom", "stops 6 rice": "-", "stops 9 rice": "tom",
    "stops 9 salt": "-",
}
QUESTIONS = ("who", "why", "paper", "chain", "bill", "heirs", "roots", "store", "account", "stops")


class DeskCase(LadingCase):
    def told(self, lines, hands=HANDS):
        """The desk's answers: one for each line, each a text; lines and roll stay as they were."""
        hands, kept = list(hands), list(lines)
        answers = desk(hands, lines)
        self.assertIs(type(answers), list)
        self.assertEqual(len(answers), len(lines))
        self.assertEqual({type(answer) for answer in answers} - {str}, set())
        self.assertEqual(lines, kept)
        return answers

    def behind(self, line, ahead=ROWS):
        """The answer to this line behind those ahead of it."""
        return self.told(list(ahead) + [line])[-1]


class Lines(DeskCase):
    def test_no_lines(self):
        for hands in ([], HANDS):
            self.assertEqual(self.told([], hands), [])

    def test_rows_are_answered_with_their_numbers(self):
        self.assertEqual(self.told(list(ROWS)), NUMBERS)

    def test_each_question(self):
        self.assertEqual({line.split(" ")[0] for line in ASKED}, set(QUESTIONS))
        self.assertEqual(self.told(ROWS + list(ASKED)), NUMBERS + list(ASKED.values()))

    def test_questions_change_nothing(self):
        asked = list(ASKED)
        lines, expected = [], []
        for row, number in zip(ROWS, NUMBERS):
            lines += ["who 100000", row, "account 100000 rice", "no line"]
            expected += [None, number, None, "refused: form"]
        told = self.told(lines + asked)
        for answer, expectation in zip(told, expected):
            if expectation:
                self.assertEqual(answer, expectation)
        self.assertEqual(told[len(lines):], list(ASKED.values()))

    def test_questions_for_the_day_that_is_not_over(self):
        told = self.told(["who 5", ROWS[0], "who 5", "who 0", "take 5 abc/2 ann", "who 5", "who 1", "bill 5 abc"])
        copies = ", ".join(f"abc/{number} ann rice 100" for number in (1, 2, 3))
        self.assertEqual(told, ["-", "1", copies, "-", "2", "-", copies, "taken 2 ann 5"])

    def test_rows_taken_back(self):
        told = self.told([
            "give 1 abc rice sam 100 order ann 3", "take 2 abc/1 ann", "bill 2 abc", "back 2 2", "bill 2 abc",
            "back 2 2",
            "take 2 abc/3 ann", "bill 2 abc", "back 2 1", "back 1 1", "back 3 3", "back 2 4", "back 2 0", "back 2 3",
            "give 2 def rice sam 1 order ann 1", "back 2 4", "who 2",
        ])
        self.assertEqual(told, [
            "1", "2", "taken 1 ann 2", "back 2", "open", "refused: struck", "3", "taken 3 ann 2", "refused: day over",
            "refused: day", "refused: day over", "refused: unknown", "refused: unknown", "back 3", "4", "back 4",
            "abc/1 ann rice 100, abc/2 ann rice 100, abc/3 ann rice 100",
        ])

    def test_named_later(self):
        lines = ["give 1 abc rice sam 100 order ann 3", "stop 1 rice sam", "give 1 def rice sam 1 order ann 1",
                 "back 1 1",
                 "back 1 2", "back 1 3", "back 1 2", "back 1 1", "who 1"]
        told = ["1", "2", "3", "refused: named later", "refused: named later", "back 3", "back 2", "back 1", "-"]
        self.assertEqual(self.told(lines), told)

    def test_days_and_numbers_at_their_bounds(self):
        told = self.told(["give 0 abc rice sam 1 order ann 1", "who 0", "who 100000",
                          "give 100000 def rice sam 1 order ann 1",
                          "who 99999", "back 100000 2", "back 100000 100000", "back 100000 0", "back 0 1"])
        self.assertEqual(told, ["1", "abc/1 ann rice 1", "abc/1 ann rice 1", "2", "abc/1 ann rice 1", "back 2",
                                "refused: unknown", "refused: unknown", "refused: day"])

    def test_each_call_has_a_book_of_its_own(self):
        for _ in range(3):
            self.assertEqual(self.told(ROWS[:1] + ["who 1"])[0], "1")
        self.assertEqual(self.told(["who 1"]), ["-"])

    def test_the_same_line_twice(self):
        self.assertEqual(self.told([ROWS[0], ROWS[0], "who 0", "who 0"]), ["1", "refused: name", "-", "-"])


class Refusals(DeskCase):
    """Each word of point 35, as an answer to a line behind others."""

    EACH = {
        "form": (["who 1"], "who"),
        "day": (["give 5 abc rice sam 1 order ann 1"], "take 4 abc/1 ann"),
        "unknown": (["give 5 abc rice sam 1 order ann 1"], "take 5 abc/2 ann"),
        "name": (["give 5 abc rice sam 1 order ann 1"], "give 5 abc rice sam 1 order ann 1"),
        "spent": (["give 5 abc rice sam 1 order ann 1", "take 5 abc/1 ann"], "take 5 abc/1 ann"),
        "broken 1": (["give 5 abc rice sam 1 order ann 1", "sign 5 abc/1 bob ann"], "take 5 abc/1 ann"),
        "broken 3": (["give 5 abc rice sam 1 order ann 1", "sign 5 abc/1 ann bob", "sign 5 abc/1 bob cid",
                      "sign 5 abc/1 ann ann", "sign 5 abc/1 bob ann"], "take 5 abc/1 ann"),
        "broken 12": (["give 5 abc rice sam 1 order ann 1"] + ["sign 5 abc/1 ann ann"] * 11 + ["sign 5 abc/1 bob ann"],
                      "part 5 abc/1 ann x:1"),
        "not yours": (["give 5 abc rice sam 1 order ann 1"], "pass 5 abc/1 bob ann"),
        "not to order": (["give 5 abc rice sam 1 named ann 1"], "sign 5 abc/1 ann -"),
        "stopped": (["give 5 abc rice sam 1 order ann 1", "stop 5 rice sam"], "take 5 abc/1 ann"),
        "tons": (["give 5 abc rice sam 2 order ann 1"], "part 5 abc/1 ann x:1"),
        "parcel": (["give 5 abc rice sam 2 order ann 1", "give 5 def salt sam 2 order ann 1", "part 5 abc/1 ann x:2",
                    "part 5 def/1 ann y:2"], "join 5 z ann x y"),
        "not owed": (["give 5 abc rice sam 2 order ann 1"], "paid 5 rice ann"),
        "stop stands": (["give 5 abc rice sam 2 order ann 1", "stop 5 rice sam"], "stop 5 rice sam"),
        "no stop": (["give 5 abc rice sam 2 order ann 1"], "lift 5 rice sam"),
        "full": (["give 5 abc rice sam 1 order ann 1"] + ["sign 5 abc/1 ann ann"] * 12, "sign 5 abc/1 ann ann"),
        "struck": (["give 5 abc rice sam 2 order ann 1", "back 5 1"], "back 5 1"),
        "day over": (["give 5 abc rice sam 2 order ann 1"], "back 6 1"),
        "named later": (["give 5 abc rice sam 2 order ann 1", "pass 5 abc/1 ann bob"], "back 5 1"),
    }

    def test_each_word(self):
        self.assertEqual({re.sub(r" \d+$", "", word) for word in self.EACH}, set(WORDS))
        for word, (ahead, line) in self.EACH.items():
            with self.subTest(word):
                told = self.told(ahead + [line, line, "give 7 good tin sam 1 order ann 1", line])
                self.assertFalse(any(answer.startswith("refused") for answer in told[:len(ahead)]))
                rows = len([answer for answer in told[:len(ahead)] if answer.isdigit()])
                self.assertEqual(told[len(ahead):-1], [f"refused: {word}"] * 2 + [str(rows + 1)])

    def test_a_refusal_changes_no_answer(self):
        for word, (ahead, line) in self.EACH.items():
            asked = ["who 5", "account 5 rice", "paper 5 abc/1", "chain 5 abc/1", "bill 5 abc", "stops 5 rice",
                     "heirs 5 abc"]
            with self.subTest(word):
                before, after = self.told(ahead + asked), self.told(ahead + [line] * 3 + asked)
                self.assertEqual(before[-len(asked):], after[-len(asked):])

    def test_a_bad_roll_is_refused_with_bad_form_itself(self):
        for hands in (["ann", "ann"], ["Ann"], [""], ["a" + letter for letter in "bcdefghijklmnopqrstuvwxy"] * 2):
            for lines in ([], list(ROWS)):
                self.refused("form", desk, hands, lines)


class NotKnown(DeskCase):
    def test_in_each_question(self):
        texts = {
            "why": ["none/1 ann", "none ann", "abc ann", "x/1 ann", "one/2 ann", f"abc/1 {STRANGER}",
                    f"none {STRANGER}",
                    "abc/1 rice"],
            "paper": ["none/1", "none", "abc", "x/1", "one/2", "two/3", "rice", "ann"],
            "chain": ["none/1", "x/1", "one/2", "two/3"],
            "bill": ["none", "x", "rice", "ann"], "heirs": ["none", "x", "z", "rice"],
            "roots": ["none", "abc", "one", "rice"],
            "store": ["none", "abc", "x", "ann"], "account": ["none", "abc", "x", "ann"],
            "stops": ["none", "abc", "x", "ann"],
        }
        lines = [f"{word} 9 {text}" for word, asked in texts.items() for text in asked]
        self.assertEqual(self.told(ROWS + lines)[len(ROWS):], ["refused: unknown"] * len(lines))

    def test_what_is_known_from_a_later_day_on(self):
        lines = ["paper 0 abc/1", "why 0 abc/1 ann", "chain 0 abc/1", "bill 0 abc", "heirs 0 abc", "store 0 rice",
                 "account 0 rice", "stops 0 rice", "roots 2 x", "paper 2 x", "roots 7 z", "why 7 z cid"]
        self.assertEqual(self.told(ROWS + lines)[len(ROWS):], ["refused: unknown"] * len(lines))

    def test_form_goes_ahead(self):
        lines = [f"why 9 abc/4 {STRANGER}", "why 9 none Ann", "why 9 none/1 -", "why 9 ABC ann", "why 100001 none ann",
                 "why 09 none ann", "paper 100001 none", "chain 9 none", "chain 9 x", "bill 9 none/1", "bill 9 abc/1",
                 "heirs 9 abc/1", "roots 9 x/1", "store 9 rice/1", "account 9 -", "stops 9 R", "back 100001 99",
                 "back 01 99", "back 1 099", f"take 1 abc/4 {STRANGER}"]
        self.assertEqual(self.told(ROWS + lines)[len(ROWS):], ["refused: form"] * len(lines))


class NearlyGood(DeskCase):
    """Lines that are nearly good are answered with `refused: form`, and nothing else comes of them."""

    # One good line of each form, which could stand behind the rows above.
    GOOD = [
        "give 9 new rice sam 100 order ann 3", "sign 9 abc/2 bob -", "pass 9 u bob ann", "take 9 two/1 ann",
        "part 9 u bob p:50 q:10", "join 9 m cid u z", "stop 9 salt sam", "lift 9 rice tom", "paid 9 rice tom",
        "back 9 17",
        "who 9", "why 9 abc/1 ann", "paper 9 abc/1", "paper 9 x", "chain 9 abc/2", "bill 9 abc", "heirs 9 abc",
        "roots 9 z", "store 9 rice", "account 9 rice", "stops 9 rice",
    ]
    NAME = "[a-z]{1,12}"
    DAY = "(?:0|[1-9][0-9]{0,4}|100000)"
    TONS = "(?:[1-9][0-9]{0,8}|1000000000)"
    COPY = NAME + "/[123]"
    PAPER = NAME + "(?:/[123])?"
    FORM = re.compile("|".join([
        f"give {DAY} {NAME} {NAME} {NAME} {TONS} (?:named|order|holder) {NAME} [123]",
        f"sign {DAY} {COPY} {NAME} (?:{NAME}|-)", f"pass {DAY} {PAPER} {NAME} {NAME}", f"take {DAY} {PAPER} {NAME}",
        f"part {DAY} {PAPER} {NAME}(?: {NAME}:{TONS}){{1,12}}", f"join {DAY} {NAME} {NAME}(?: {NAME}){{2,12}}",
        f"(?:stop|lift|paid) {DAY} {NAME} {NAME}", f"back {DAY} {DAY}", f"who {DAY}", f"why {DAY} {PAPER} {NAME}",
        f"paper {DAY} {PAPER}", f"chain {DAY} {COPY}",
        f"(?:bill|heirs|roots|store|account|stops) {DAY} {NAME}",
    ]))

    def good_form(self, line):
        """Points 32 and 33 as a pattern, with names within one row that must differ."""
        listed = [word.split(":")[0] for word in line.split(" ")[4:]]
        return bool(self.FORM.fullmatch(line)) and (line[:4] not in ("part", "join") or len(listed) == len(set(listed)))

    def all_form(self, lines):
        """None of these lines is of good form: each is refused so, and the book goes on as if it had not been there."""
        told = self.told(ROWS + lines + ["give 9 new rice sam 100 order ann 3"])
        for line, answer in zip(lines, told[len(ROWS):]):
            self.assertEqual(answer, "refused: form", line)
        self.assertEqual(told[-1], str(len(ROWS) + 1))

    def test_the_good_ones(self):
        for line in self.GOOD:
            with self.subTest(line):
                self.assertTrue(self.good_form(line))
                self.assertNotEqual(self.behind(line), "refused: form")

    def test_words_of_no_line(self):
        self.all_form(["", " ", "  ", "-", "5", "who", "why", "back", "give", "abc", "WHO 5", "Who 5", "whose 5",
                       "whom 5",
                       "owed 5 rice", "papers 5", "parcels 5", "fate 5 abc", "lying 5 rice", "refused: form", "back",
                       "at 5",
                       "strike 5 1", "write 5", "rows", "last_day", "book 5", "copy 5 abc/1", "note 5 x",
                       "stopped 5 rice"])

    def test_blanks_in_front_behind_or_twice(self):
        lines = []
        for line in self.GOOD:
            lines += [" " + line, line + " ", "  " + line, line + "  ", line.replace(" ", ""), line.replace(" ", ",")]
            lines += [line[:place] + " " + line[place:] for place, sign in enumerate(line) if sign == " "]
        self.all_form(lines)

    def test_too_few_or_too_many_words(self):
        lines = []
        for line in self.GOOD:
            words = line.split(" ")
            lines += [" ".join(words[:count]) for count in range(1, len(words))]
            lines += [" ".join(words[:place] + words[place + 1:]) for place in range(len(words))]
            lines += [f"{line} {more}" for more in ("ann", "5", "-", "x:1", line)]
        bad = [line for line in lines if not self.good_form(line)]
        # Of a part and a join some words may be left out or put in; these stay of good form.
        self.assertLess(len(lines) - len(bad), 12)
        self.all_form(bad)

    def test_another_word_in_front(self):
        lines = []
        for line in self.GOOD:
            behind = line[line.index(" "):]
            for word in ("GIVE", "Give", "gives", "xx", "", "-", "5", "Who", "owed", "fate"):
                lines.append(word + behind)
            lines += [word + behind for word in QUESTIONS + ("back", "give", "sign", "pass", "take", "part", "join",
                                                             "stop")]
        self.all_form([line for line in lines if not self.good_form(line)])

    def test_numbers_not_written_so_or_outside_their_bounds(self):
        numbers = ["+9", "-9", "09", "009", "9.", "9.0", "9,0", "9_0", "0x9", "9e0", "nine", "", "-", "00", "-0", "+0",
                   "-1",
                   "100001", "100002", "0100000", "999999", "1000000000", "10000000000", "9" * 30, "9" * 5000, "1 0"]
        lines = []
        for line in self.GOOD:
            words = line.split(" ")
            lines += [" ".join([words[0], number] + words[2:]) for number in numbers]
        lines += [f"back 9 {number}" for number in numbers]
        self.all_form(lines)

    def test_bad_texts(self):
        names = ["", "-", "Abc", "ab1", "abcdefghijklm", "a:b", "abc/", "/1", "a_b", "'abc'"]
        papers = names + ["abc/0", "abc/4", "abc/12", "abc/01", "abc//1", "abc/1/1", "Abc/1"]
        lines = [f"why 9 {paper} ann" for paper in papers] + [f"why 9 abc/1 {hand}" for hand in names + ["abc/1"]]
        lines += [f"paper 9 {paper}" for paper in papers] + [f"chain 9 {paper}" for paper in papers + ["abc", "x"]]
        for word in ("bill", "heirs", "roots", "store", "account", "stops"):
            lines += [f"{word} 9 {name}" for name in names + ["abc/1", "x/1", "rice/1"]]
        self.all_form(lines)

    def test_every_line_that_is_one_sign_away(self):
        signs = " -/:019azA,"
        lines = []
        for line in self.GOOD:
            for place in range(len(line) + 1):
                lines.append(line[:place] + line[place + 1:])
                for sign in signs:
                    lines += [line[:place] + sign + line[place:], line[:place] + sign + line[place + 1:]]
        self.all_form([line for line in lines if not self.good_form(line)])
        # Without any row all that is of good form is refused with another word, or answered.
        good = [line for line in lines if self.good_form(line)]
        self.assertNotIn("refused: form", self.told(good))


if __name__ == "__main__":
    unittest.main()
