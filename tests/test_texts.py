"""Points 2, 3 and 14: rules as texts."""

import unittest
from random import Random

from filecross.errors import BadRule, BadText
from filecross.texts import read_rule, written
from tests.samples import NO_MARKS, NO_WORDS, RULE, letters, many_rows, random_rule, refused

TEXT = "tax a b\nhome ab -\ncar c -\ntax d c"


class Written(unittest.TestCase):
    def test_a_row_for_each_row(self):
        self.assertEqual(written(RULE), TEXT)

    def test_without_rows(self):
        self.assertEqual(written([]), "")

    def test_no_marks(self):
        self.assertEqual(written([("x", "", "")]), "x - -")
        self.assertEqual(written([("x", "ab", "")]), "x ab -")
        self.assertEqual(written([("x", "", "ab")]), "x - ab")
        self.assertEqual(written([("x", "ac", "bh")]), "x ac bh")

    def test_rows_alike_and_their_order(self):
        self.assertEqual(written([("b", "", ""), ("a", "", ""), ("b", "", "")]), "b - -\na - -\nb - -")

    def test_rules_that_cannot_be(self):
        self.assertEqual(refused(self, BadRule, written, [("rest", "", "")]).number, 0)
        self.assertEqual(refused(self, BadRule, written, many_rows(13)).number, 12)
        self.assertEqual(refused(self, BadRule, written, [(head, "", "") for head in letters(7)]).number, 6)
        self.assertEqual(refused(self, BadRule, written, RULE + [("x", "a", "a")]).number, 4)
        for head in NO_WORDS:
            self.assertEqual(refused(self, BadRule, written, RULE + [(head, "", "")]).number, 4)
        for marks in NO_MARKS + ["-"]:
            self.assertEqual(refused(self, BadRule, written, [("x", marks, "")]).number, 0)
            self.assertEqual(refused(self, BadRule, written, [("x", "", ""), ("x", "", marks)]).number, 1)


class Read(unittest.TestCase):
    def test_rows(self):
        self.assertEqual(read_rule(TEXT), RULE)

    def test_without_rows(self):
        self.assertEqual(read_rule(""), [])

    def test_no_marks(self):
        told = [("x", "", ""), ("x", "ab", ""), ("x", "", "ab"), ("x", "ac", "bh")]
        self.assertEqual(read_rule("x - -\nx ab -\nx - ab\nx ac bh"), told)

    def test_what_is_written_is_read_to_the_same(self):
        chance = Random(14)
        full = [(head, "abcd", "efgh") for head in ["abcdef", "zzzzzz", "a", "b", "c", "d"]] * 2
        for rule in [full, many_rows(12)] + [random_rule(chance, 13) for _ in range(200)]:
            self.assertEqual(read_rule(written(rule)), rule)
            self.assertEqual(written(read_rule(written(rule))), written(rule))

    def test_kinds(self):
        told = read_rule(TEXT)
        self.assertIs(told.__class__, list)
        for row in told:
            self.assertEqual([row.__class__] + [word.__class__ for word in row], [tuple, str, str, str])


class BadTexts(unittest.TestCase):
    def row(self, text):
        return refused(self, BadText, read_rule, text).row

    def check(self, row):
        """Check that this row is refused wherever it stands."""
        self.assertEqual(self.row(row), 0, row)
        self.assertEqual(self.row(row + "\nx a b"), 0, row)
        self.assertEqual(self.row("x a b\n" + row + "\nx a b"), 1, row)
        self.assertEqual(self.row("x a b\nx - -\n" + row), 2, row)

    def test_too_few_or_too_many_words(self):
        for row in ["x", "x a", "x -", "-", "x a b c", "x - - -", "x a b a b", "x - - x"]:
            self.check(row)

    def test_an_empty_row(self):
        self.assertEqual(self.row("\n"), 0)
        self.assertEqual(self.row("\nx a b"), 0)
        self.assertEqual(self.row("x a b\n"), 1)
        self.assertEqual(self.row("x a b\n\nx a b"), 1)
        self.assertEqual(self.row("x a b\nx - -\n"), 2)
        self.assertEqual(self.row("x a b\n\n\n"), 1)

    def test_only_blanks(self):
        for row in [" ", "  ", "   "]:
            self.check(row)

    def test_two_blanks_together(self):
        for row in ["x  a b", "x a  b", "x  a  b", "x  a", "x a  ", "x  -"]:
            self.check(row)

    def test_a_blank_ahead_or_behind(self):
        for row in [" x a b", "x a b ", " x a b ", " x a", "x a ", " a b", " - -"]:
            self.check(row)

    def test_words_of_other_signs(self):
        for row in ["X a b", "x A b", "x a B", "x1 a b", "x a1 b", "x a 0", "x a,b c", "x a b.", "x_y a b", "x ~ a",
                    "xA - -", "x aB -", "x - bC", "x {a b", "x `a b", "x\ta\tb", "x a b\r"]:
            self.check(row)

    def test_signs_for_no_marks_elsewhere(self):
        for row in ["- a b", "- - -", "x-y a b", "-x a b", "x -- a", "x a --", "x -a b", "x a b-", "x a- b"]:
            self.check(row)

    def test_the_first_row_that_is_none(self):
        self.assertEqual(self.row("x a b\nx\nX - -\n"), 1)
        self.assertEqual(self.row("x a b\nx - -\nX - -\nx"), 2)

    def test_far_behind(self):
        self.assertEqual(self.row("x - -\n" * 30), 30)

    def test_texts_ahead_of_rules(self):
        self.assertEqual(self.row("rest - -\nx"), 1)
        self.assertEqual(self.row("x a a\nx b b\n"), 2)
        self.assertEqual(self.row("x - -\n" * 12 + "x - -\nx -"), 13)
        self.assertEqual(self.row("\n".join([head + " - -" for head in letters(7)]) + "\n- - -"), 7)


class BadRules(unittest.TestCase):
    def number(self, text):
        return refused(self, BadRule, read_rule, text).number

    def test_three_words_that_cannot_be_in_a_rule(self):
        for row in ["rest - -", "abcdefg - -", "x ba -", "x aa -", "x - i", "x abi -", "x a a", "x ab bc", "x - hg",
                    "x z -", "x abcdefghi -", "rest a a"]:
            self.assertEqual(self.number(row), 0, row)
            self.assertEqual(self.number("x a b\nx - -\n" + row + "\nx - -"), 2, row)

    def test_the_thirteenth_row_and_the_seventh_head(self):
        self.assertEqual(self.number("\n".join(["x a -"] * 13)), 12)
        self.assertEqual(self.number("\n".join(["x a -"] * 40)), 12)
        self.assertEqual(self.number("\n".join([head + " - -" for head in letters(7)])), 6)
        self.assertEqual(read_rule("\n".join(["x a -"] * 12)), [("x", "a", "")] * 12)

    def test_the_first_row_that_cannot_be(self):
        self.assertEqual(self.number("x - -\nx a a\nrest - -"), 1)


if __name__ == "__main__":
    unittest.main()
