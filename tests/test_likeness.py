"""Points 2, 4 and 11: what parts two rules, and whether they file all papers alike."""

import unittest
from random import Random

from filecross.errors import BadRule
from filecross.likeness import alike, parting
from filecross.rules import heads_of, main_of
from tests.samples import ALL_MARKS, NO_MARKS, NO_WORDS, RULE, letters, many_rows, random_rule, refused

BAD_AT_0 = [("rest", "", "")]
BAD_AT_1 = [("tax", "a", ""), ("tax", "b", "b")]


def told(rule, marks):
    """Tell what a rule tells of marks."""
    return (main_of(rule, marks), heads_of(rule, marks))


def plain_parting(one, other):
    """Tell what parts two rules, by the words of point 11; all marks, be they named or not."""
    for marks in sorted(ALL_MARKS, key=lambda some: (len(some), some)):
        if told(one, marks) != told(other, marks):
            return (marks, told(one, marks), told(other, marks))
    return None


class Parting(unittest.TestCase):
    def check_alike(self, one, other):
        for first, second in ((one, other), (other, one)):
            self.assertIsNone(parting(first, second))
            self.assertIs(alike(first, second), True)

    def check_parted(self, one, other, marks, by_one, by_other):
        self.assertEqual(parting(one, other), (marks, by_one, by_other))
        self.assertEqual(parting(other, one), (marks, by_other, by_one))
        self.assertIs(alike(one, other), False)
        self.assertIs(alike(other, one), False)

    def test_the_same_rule(self):
        self.check_alike(RULE, RULE)
        self.check_alike(RULE, list(RULE))

    def test_without_rows(self):
        self.check_alike([], [])
        self.check_parted([], [("x", "", "")], "", ("rest", ["rest"]), ("x", ["x"]))
        self.check_parted([], [("x", "bc", "d")], "bc", ("rest", ["rest"]), ("x", ["x"]))

    def test_unlike_main_heads_of_like_heads(self):
        one, other = [("x", "a", ""), ("y", "b", "")], [("y", "b", ""), ("x", "a", "")]
        self.check_parted(one, other, "ab", ("x", ["x", "y"]), ("y", ["x", "y"]))

    def test_unlike_heads_of_the_same_main_head(self):
        one, other = [("x", "a", ""), ("y", "ac", "")], [("x", "a", "")]
        self.check_parted(one, other, "ac", ("x", ["x", "y"]), ("x", ["x"]))

    def test_the_same_rows_in_another_order_that_never_meet(self):
        one = [("x", "a", ""), ("y", "b", "a")]
        self.check_alike(one, one[::-1])

    def test_rows_of_the_same_head_in_another_order(self):
        one = [("x", "a", ""), ("x", "b", ""), ("y", "c", "")]
        self.check_alike(one, [one[1], one[0], one[2]])

    def test_rows_that_change_nothing(self):
        self.check_alike(RULE, RULE + RULE)
        self.check_alike([("x", "a", "")], [("x", "a", "b"), ("x", "ab", "")])
        self.check_alike([("x", "", "")], [("x", "h", ""), ("x", "", "h")])

    def test_a_head_under_another_name(self):
        self.check_parted([("x", "a", "")], [("y", "a", "")], "a", ("x", ["x"]), ("y", ["y"]))

    def test_the_fewest_marks_first(self):
        one = [("x", "ab", ""), ("y", "h", "")]
        other = [("x", "h", ""), ("y", "ab", "")]
        self.check_parted(one, other, "h", ("y", ["y"]), ("x", ["x"]))
        self.check_parted([("x", "abc", ""), ("x", "gh", "")], [], "gh", ("x", ["x"]), ("rest", ["rest"]))

    def test_of_as_few_the_first_as_texts(self):
        one = [("x", "bc", ""), ("x", "ah", ""), ("x", "ad", "")]
        self.check_parted(one, [], "ad", ("x", ["x"]), ("rest", ["rest"]))
        self.check_parted([("x", "h", ""), ("y", "c", "")], [], "c", ("y", ["y"]), ("rest", ["rest"]))

    def test_no_marks_are_the_fewest(self):
        self.check_parted([("x", "", "a")], [("x", "a", "")], "", ("x", ["x"]), ("rest", ["rest"]))

    def test_marks_that_only_one_of_them_names(self):
        self.check_parted([("x", "a", "")], [("x", "a", "g")], "ag", ("x", ["x"]), ("rest", ["rest"]))
        self.check_parted([("x", "a", "")], [("x", "a", ""), ("y", "h", "")], "h", ("rest", ["rest"]), ("y", ["y"]))

    def test_marks_of_both_of_them(self):
        one = [("x", "a", ""), ("y", "h", "")]
        other = [("x", "a", ""), ("y", "h", "a"), ("z", "ah", "")]
        self.check_parted(one, other, "ah", ("x", ["x", "y"]), ("x", ["x", "z"]))

    def test_all_eight_marks_are_needed(self):
        self.check_parted([("x", "abcdefgh", "")], [], "abcdefgh", ("x", ["x"]), ("rest", ["rest"]))

    def test_heads_rise(self):
        one = [("zoo", "", ""), ("a", "", ""), ("m", "", "")]
        self.check_parted(one, [("zoo", "", "")], "", ("zoo", ["a", "m", "zoo"]), ("zoo", ["zoo"]))

    def test_by_chance(self):
        chance = Random(11)
        seen = set()
        for _ in range(150):
            one = random_rule(chance, 5)
            other = chance.choice([random_rule(chance, 5), chance.sample(one, len(one)), one + one[:1], one[:-1]])
            expected = plain_parting(one, other)
            self.assertEqual(parting(one, other), expected)
            self.assertIs(alike(one, other), expected is None)
            seen.add(expected is None)
        self.assertEqual(seen, {False, True})

    def test_kinds(self):
        marks, by_one, by_other = answer = parting([("x", "a", "")], [])
        self.assertEqual((answer.__class__, marks.__class__), (tuple, str))
        for each in (by_one, by_other):
            self.assertEqual((each.__class__, each[0].__class__, each[1].__class__), (tuple, str, list))


class Refusals(unittest.TestCase):
    def test_the_first_rule_first(self):
        for call in (parting, alike):
            self.assertEqual(refused(self, BadRule, call, BAD_AT_0, RULE).number, 0)
            self.assertEqual(refused(self, BadRule, call, RULE, BAD_AT_0).number, 0)
            self.assertEqual(refused(self, BadRule, call, BAD_AT_1, BAD_AT_0).number, 1)
            self.assertEqual(refused(self, BadRule, call, BAD_AT_0, BAD_AT_1).number, 0)
            self.assertEqual(refused(self, BadRule, call, many_rows(13), BAD_AT_1).number, 12)
            self.assertEqual(refused(self, BadRule, call, BAD_AT_1, many_rows(13)).number, 1)

    def test_the_same_bad_rule_twice(self):
        refused(self, BadRule, parting, BAD_AT_0, BAD_AT_0)
        refused(self, BadRule, alike, BAD_AT_0, BAD_AT_0)

    def test_rows_that_cannot_be(self):
        for call in (parting, alike):
            for row in [(word, "", "") for word in NO_WORDS] + [("x", marks, "") for marks in NO_MARKS]:
                self.assertEqual(refused(self, BadRule, call, RULE, RULE + [row]).number, 4)

    def test_each_rule_is_counted_by_itself(self):
        self.assertIs(alike(many_rows(12), many_rows(12)), True)
        six = [(head, "", "") for head in letters(6)]
        self.assertEqual(parting(six, [("x", "", "")]), ("", ("a", letters(6)), ("x", ["x"])))


if __name__ == "__main__":
    unittest.main()
