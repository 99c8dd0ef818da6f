"""Point 3, where a row names a copy, a note or a paper."""

import unittest

from ladingchain.papers import good_copy, good_paper, paper_name

NAMES = ["a", "abc", "abcdefghijkl"]
NO_PAPERS = ["", "-", "/", "/1", "abc/", "abc/0", "abc/4", "abc/11", "abc/01", "abc/1/1", "Abc/1", "ab c/1", "abc /1"]
NO_PAPERS += [" abc", "abc ", "abc/1 ", "Abc", "ab1", "abcdefghijklm", "abcdefghijklm/1", "abc:1", "abc|1"]


class PapersTexts(unittest.TestCase):
    def check(self, text, paper, copy):
        with self.subTest(text):
            self.assertIs(good_paper(text), paper)
            self.assertIs(good_copy(text), copy)

    def test_a_copy_is_a_copy_and_a_paper(self):
        for name in NAMES:
            for number in (1, 2, 3):
                self.check(f"{name}/{number}", True, True)

    def test_a_note_is_a_paper_and_no_copy(self):
        for name in NAMES:
            self.check(name, True, False)

    def test_any_other_text_is_neither(self):
        for text in NO_PAPERS:
            self.check(text, False, False)

    def test_the_name_is_the_bill_s_or_the_note_s(self):
        for name in NAMES:
            for text in (name, name + "/1", name + "/2", name + "/3"):
                with self.subTest(text):
                    self.assertEqual(paper_name(text), name)


if __name__ == "__main__":
    unittest.main()
