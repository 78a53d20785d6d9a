"""Points 2, 3 and 4: rules, marks and the heads that they give."""

import unittest

from filecross.errors import BadMarks, BadRule
from filecross.rules import heads_of, main_of
from tests.samples import ALL_MARKS, NO_MARKS, NO_WORDS, RULE, letters, many_rows, random_rules, refused


def plain_heads(rule, marks):
    """Tell the heads of the rows that hold, in turn, by the words of point 2."""
    held = [head for head, needs, bars in rule if set(needs) <= set(marks) and not set(bars) & set(marks)]
    return held or ["rest"]


class Heads(unittest.TestCase):
    def test_rows_that_hold(self):
        self.assertEqual(heads_of(RULE, "a"), ["tax"])
        self.assertEqual(heads_of(RULE, "abc"), ["car", "home"])
        self.assertEqual(heads_of(RULE, "abcd"), ["car", "home"])
        self.assertEqual(heads_of(RULE, "acd"), ["car", "tax"])

    def test_heads_rise_and_the_main_one_is_that_of_the_first_row(self):
        rule = [("zoo", "", ""), ("a", "", ""), ("m", "", "")]
        self.assertEqual(heads_of(rule, ""), ["a", "m", "zoo"])
        self.assertEqual(main_of(rule, ""), "zoo")

    def test_a_head_of_several_rows_is_told_once(self):
        self.assertEqual(heads_of(RULE, "ad"), ["tax"])
        self.assertEqual(main_of(RULE, "d"), "tax")

    def test_rest_where_no_row_holds(self):
        self.assertEqual(heads_of(RULE, "b"), ["rest"])
        self.assertEqual(main_of(RULE, "b"), "rest")
        self.assertEqual(heads_of(RULE, ""), ["rest"])

    def test_rest_is_no_head_where_a_row_holds(self):
        for marks in ALL_MARKS:
            heads = heads_of(RULE, marks)
            self.assertTrue("rest" not in heads or heads == ["rest"])

    def test_a_rule_without_rows(self):
        for marks in ALL_MARKS:
            self.assertEqual(heads_of([], marks), ["rest"])
            self.assertEqual(main_of([], marks), "rest")

    def test_all_of_the_needs_and_none_of_the_bars(self):
        rule = [("x", "abc", "defgh")]
        for marks in ALL_MARKS:
            self.assertEqual(main_of(rule, marks), "x" if marks == "abc" else "rest")

    def test_no_marks_and_all_eight(self):
        rule = [("none", "", "abcdefgh"), ("all", "abcdefgh", "")]
        self.assertEqual(heads_of(rule, ""), ["none"])
        self.assertEqual(heads_of(rule, "abcdefgh"), ["all"])
        self.assertEqual(heads_of(rule, "abcdefg"), ["rest"])

    def test_heads_that_are_beginnings_of_others(self):
        rule = [("taxi", "", ""), ("t", "", ""), ("tax", "", ""), ("res", "", ""), ("rests", "", "")]
        self.assertEqual(heads_of(rule, ""), ["res", "rests", "t", "tax", "taxi"])
        self.assertEqual(main_of(rule, ""), "taxi")

    def test_rules_by_chance(self):
        for rule in random_rules(40, 1):
            for marks in ALL_MARKS:
                held = plain_heads(rule, marks)
                self.assertEqual(heads_of(rule, marks), sorted(set(held)))
                self.assertEqual(main_of(rule, marks), held[0])

    def test_nothing_is_changed_or_kept(self):
        rule = list(RULE)
        told = heads_of(rule, "acd")
        told.append("zoo")
        self.assertEqual(rule, RULE)
        self.assertEqual(heads_of(rule, "acd"), ["car", "tax"])
        rest = heads_of(rule, "")
        rest.append("zoo")
        self.assertEqual(heads_of(rule, ""), ["rest"])
        rule.insert(0, ("zoo", "", ""))
        self.assertEqual(heads_of(rule, ""), ["zoo"])
        self.assertEqual(main_of(rule, ""), "zoo")


class Rules(unittest.TestCase):
    def number(self, rule):
        numbers = [refused(self, BadRule, call, rule, "").number for call in (heads_of, main_of)]
        self.assertEqual(numbers[0], numbers[1])
        return numbers[0]

    def test_heads_that_are_none(self):
        for head in NO_WORDS + ["rest"]:
            self.assertEqual(self.number(RULE + [(head, "a", "")]), 4, head)
            self.assertEqual(self.number([(head, "", "")] + RULE), 0, head)

    def test_heads_of_one_and_of_six_letters(self):
        self.assertEqual(main_of([("z", "", ""), ("abcdez", "", "")], ""), "z")
        self.assertEqual(main_of([("abcdez", "", "")], ""), "abcdez")
        self.assertEqual(self.number([("abcdezz", "", "")]), 0)

    def test_needs_and_bars_that_are_no_marks(self):
        for marks in NO_MARKS:
            self.assertEqual(self.number([("x", "", ""), ("y", marks, "")]), 1, marks)
            self.assertEqual(self.number([("x", "", ""), ("y", "", marks)]), 1, marks)

    def test_needs_and_bars_with_one_in_common(self):
        self.assertEqual(self.number([("x", "a", "b"), ("y", "a", "a")]), 1)
        self.assertEqual(self.number([("x", "abch", "defgh")]), 0)

    def test_the_twelfth_and_the_thirteenth_row(self):
        self.assertEqual(main_of(many_rows(12), "a"), "tax")
        self.assertEqual(self.number(many_rows(13)), 12)
        self.assertEqual(self.number(many_rows(20)), 12)
        self.assertEqual(self.number(many_rows(12) + [("REST", "a", "a")]), 12)

    def test_the_sixth_and_the_seventh_head(self):
        rule = [(head, "", "") for head in letters(6)]
        self.assertEqual(heads_of(rule, ""), letters(6))
        self.assertEqual(heads_of(rule + rule, ""), letters(6))
        self.assertEqual(self.number(rule + [("g", "", "")]), 6)
        self.assertEqual(self.number(rule + rule[:3] + [("g", "", ""), ("h", "", "")]), 9)

    def test_the_first_row_that_cannot_be(self):
        self.assertEqual(self.number([("x", "", ""), ("y", "b", "b"), ("rest", "", "")]), 1)
        self.assertEqual(self.number(many_rows(11) + [("", "", "")] + many_rows(5)), 11)
        seven = [(head, "", "") for head in letters(7)]
        self.assertEqual(self.number(seven + many_rows(9)), 6)
        self.assertEqual(self.number(seven[:4] + [("x", "ba", "")] + seven[4:]), 4)

    def test_rows_alike_may_be(self):
        self.assertEqual(heads_of(RULE + RULE, "a"), ["tax"])


class Marks(unittest.TestCase):
    def test_what_are_no_marks(self):
        for marks in NO_MARKS + ["abcdefghi", "abcdefgg"]:
            refused(self, BadMarks, heads_of, RULE, marks)
            refused(self, BadMarks, main_of, [], marks)

    def test_all_marks_are_taken(self):
        for marks in ALL_MARKS:
            self.assertEqual(heads_of([("x", "", "")], marks), ["x"])

    def test_rules_ahead_of_marks(self):
        for call in (heads_of, main_of):
            self.assertEqual(refused(self, BadRule, call, [("x", "a", "a")], "ba").number, 0)


if __name__ == "__main__":
    unittest.main()
