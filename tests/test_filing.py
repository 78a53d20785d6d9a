"""Points 3, 5 and 6: papers, the right cabinet, and what a paper is found by."""

import unittest
from itertools import chain, combinations
from random import Random

from filecross.errors import BadPapers, BadRule, NoPaper, NotFound
from filecross.filing import found_by, right
from filecross.rules import heads_of, main_of
from tests.samples import (ALL_MARKS, NO_MARKS, NO_WORDS, PAPERS, RULE, many_papers, many_rows,
                           random_rule, refused)

BAD_RULE = [("tax", "a", ""), ("rest", "", "")]
EACH = [("x", "a", ""), ("y", "b", ""), ("z", "c", ""), ("w", "d", "")]


def sublists(heads):
    """Tell all rising sublists of the heads."""
    return [list(some) for some in chain(*[combinations(heads, k) for k in range(len(heads) + 1)])]


def plain_found(rule, papers, name):
    """Tell what the paper is found by, or the name of one that has all its heads, by point 6."""
    heads = {other: heads_of(rule, marks) for other, marks in papers}
    others = {other: told for other, told in heads.items() if other != name}
    hiding = [other for other, told in others.items() if set(heads[name]) <= set(told)]
    if hiding:
        return sorted(hiding)[0]
    alone = [some for some in sublists(heads[name])
             if not [told for told in others.values() if set(some) <= set(told)]]
    return sorted(alone, key=lambda some: (len(some), some))[0]


class Right(unittest.TestCase):
    def test_each_sheet_under_its_main_head_alone(self):
        told = [("car", ["pass"]), ("home", ["lease"]), ("rest", ["note"]), ("tax", ["bill"])]
        self.assertEqual(right(RULE, PAPERS), told)

    def test_kinds(self):
        told = right(RULE, PAPERS)
        self.assertIs(told.__class__, list)
        for drawer in told:
            self.assertIs(drawer.__class__, tuple)
            self.assertIs(drawer[1].__class__, list)

    def test_names_rise_whatever_the_order_of_the_papers(self):
        papers = [("b", ""), ("ab", ""), ("c", "a"), ("a", ""), ("abc", "")]
        self.assertEqual(right([("x", "a", "")], papers), [("rest", ["a", "ab", "abc", "b"]), ("x", ["c"])])

    def test_no_papers(self):
        self.assertEqual(right(RULE, []), [("car", []), ("home", []), ("rest", []), ("tax", [])])

    def test_a_rule_without_rows(self):
        self.assertEqual(right([], []), [("rest", [])])
        self.assertEqual(right([], PAPERS), [("rest", ["bill", "lease", "note", "pass"])])

    def test_drawers_rise_as_texts(self):
        rule = [("tax", "", ""), ("taxi", "", ""), ("t", "", ""), ("rests", "", ""), ("res", "", ""), ("a", "", "")]
        told = [head for head, names in right(rule, [])]
        self.assertEqual(told, ["a", "res", "rest", "rests", "t", "tax", "taxi"])

    def test_a_head_that_is_never_the_main_one_has_a_drawer(self):
        self.assertEqual(right([("a", "", ""), ("b", "", "")], [("x", "")]), [("a", ["x"]), ("b", []), ("rest", [])])

    def test_by_chance(self):
        chance = Random(2)
        for _ in range(60):
            rule = random_rule(chance)
            papers = [(name, chance.choice(ALL_MARKS)) for name in chance.sample(list("abcdefghi"), 6)]
            heads = sorted({head for head, needs, bars in rule} | {"rest"})
            told = [(head, sorted(name for name, marks in papers if main_of(rule, marks) == head)) for head in heads]
            self.assertEqual(right(rule, papers), told)

    def test_nothing_is_changed_or_kept(self):
        rule, papers = list(RULE), list(reversed(PAPERS))
        told = right(rule, papers)
        told[0][1].append("zoo")
        told.pop()
        self.assertEqual((rule, papers), (RULE, list(reversed(PAPERS))))
        self.assertEqual(right(rule, papers), right(RULE, PAPERS))


class Found(unittest.TestCase):
    def test_one_head_is_enough(self):
        papers = [("p", "ab"), ("q", "bc"), ("r", "c")]
        self.assertEqual(found_by(EACH, papers, "p"), ["x"])

    def test_two_heads_are_needed(self):
        papers = [("p", "ab"), ("q", "a"), ("r", "b")]
        self.assertEqual(found_by(EACH, papers, "p"), ["x", "y"])

    def test_the_first_of_as_few_as_lists_ascend(self):
        papers = [("p", "abcd"), ("q", "ab"), ("r", "cd")]
        self.assertEqual(found_by(EACH, papers, "p"), ["w", "x"])
        self.assertEqual(found_by(EACH, [("p", "abc"), ("q", "d")], "p"), ["x"])

    def test_fewer_ahead_of_what_ascends_first(self):
        papers = [("p", "abd"), ("q", "ad"), ("r", "d")]
        self.assertEqual(found_by(EACH, papers, "p"), ["y"])

    def test_heads_that_are_beginnings_of_others(self):
        rule = [("ab", "a", ""), ("a", "b", ""), ("abc", "c", "")]
        papers = [("p", "abc"), ("q", "a"), ("r", "b"), ("s", "c")]
        self.assertEqual(found_by(rule, papers, "p"), ["a", "ab"])

    def test_a_paper_alone_takes_no_head(self):
        self.assertEqual(found_by(EACH, [("p", "ab")], "p"), [])
        self.assertEqual(found_by([], [("p", "")], "p"), [])

    def test_rest(self):
        papers = [("p", ""), ("q", "a"), ("r", "h"), ("s", "b")]
        self.assertEqual(found_by(EACH, [papers[0], papers[1]], "p"), ["rest"])
        self.assertEqual(refused(self, NotFound, found_by, EACH, papers, "p").name, "r")

    def test_all_six_heads_are_needed(self):
        rule = [(mark, mark, "") for mark in "abcdef"]
        papers = [("p", "abcdef")] + [("q" + mark, "abcdef".replace(mark, "")) for mark in "abcdef"]
        self.assertEqual(found_by(rule, papers, "p"), list("abcdef"))

    def test_another_one_has_all_of_its_heads(self):
        papers = [("z", "abc"), ("p", "ab"), ("qq", "ab"), ("q", "a"), ("qqq", "abd")]
        self.assertEqual(refused(self, NotFound, found_by, EACH, papers, "p").name, "qq")
        self.assertEqual(refused(self, NotFound, found_by, EACH, papers, "qq").name, "p")
        self.assertEqual(refused(self, NotFound, found_by, EACH, papers, "q").name, "p")
        self.assertEqual(found_by(EACH, papers, "z"), ["z"])

    def test_no_paper_of_the_name(self):
        for name in ["bil", "bills", "", "BILL", "not a name", "tax", "\u00e4"]:
            refused(self, NoPaper, found_by, RULE, PAPERS, name)
        refused(self, NoPaper, found_by, [], [], "a")

    def test_by_chance(self):
        chance = Random(3)
        for _ in range(300):
            rule = random_rule(chance, 10)
            papers = [(name, chance.choice(ALL_MARKS[:60])) for name in chance.sample(list("abcdefghi"), 4)]
            name = papers[chance.randrange(4)][0]
            told = plain_found(rule, papers, name)
            if isinstance(told, str):
                self.assertEqual(refused(self, NotFound, found_by, rule, papers, name).name, told)
            else:
                self.assertEqual(found_by(rule, papers, name), told)

    def test_nothing_is_changed_or_kept(self):
        rule, papers = list(EACH), [("p", "ab"), ("q", "a"), ("r", "b")]
        told = found_by(rule, papers, "p")
        told.append("zoo")
        self.assertEqual((rule, papers), (EACH, [("p", "ab"), ("q", "a"), ("r", "b")]))
        self.assertEqual(found_by(rule, papers, "p"), ["x", "y"])
        papers.pop()
        self.assertEqual(found_by(rule, papers, "p"), ["y"])


class Papers(unittest.TestCase):
    def number(self, papers):
        one = refused(self, BadPapers, right, RULE, papers).number
        other = refused(self, BadPapers, found_by, RULE, papers, "nobody").number
        self.assertEqual(one, other)
        return one

    def test_names_that_are_none(self):
        for name in NO_WORDS:
            self.assertEqual(self.number(PAPERS + [(name, "")]), 4, name)

    def test_names_of_one_and_of_six_letters_and_rest(self):
        papers = [("z", ""), ("abcdez", ""), ("rest", "")]
        self.assertEqual(right([], papers), [("rest", ["abcdez", "rest", "z"])])

    def test_names_alike(self):
        self.assertEqual(self.number([("a", ""), ("b", ""), ("c", ""), ("b", "a")]), 3)
        self.assertEqual(right([], [("a", ""), ("aa", "")]), [("rest", ["a", "aa"])])

    def test_marks_that_are_none(self):
        for marks in NO_MARKS:
            self.assertEqual(self.number([("a", ""), ("b", marks), ("c", "")]), 1, marks)

    def test_the_twelfth_and_the_thirteenth_paper(self):
        self.assertEqual(right([], many_papers(12)), [("rest", [name for name, marks in many_papers(12)])])
        self.assertEqual(self.number(many_papers(13)), 12)
        self.assertEqual(self.number(many_papers(20)), 12)
        self.assertEqual(self.number(many_papers(12) + [("a", "ba")]), 12)

    def test_the_first_that_cannot_be(self):
        self.assertEqual(self.number([("a", ""), ("b", "ba"), ("a", "")]), 1)
        self.assertEqual(self.number([("a", ""), ("a", ""), ("", "")]), 1)
        self.assertEqual(self.number(many_papers(11) + [("A", "")] + many_papers(5)), 11)

    def test_rules_ahead_of_papers(self):
        self.assertEqual(refused(self, BadRule, right, BAD_RULE, [("", "")]).number, 1)
        self.assertEqual(refused(self, BadRule, found_by, many_rows(13), [("", "")], "").number, 12)

    def test_papers_ahead_of_names(self):
        twins = [("a", ""), ("b", ""), ("c", "ba")]
        self.assertEqual(refused(self, BadPapers, found_by, [], twins, "a").number, 2)
        self.assertEqual(refused(self, BadPapers, found_by, [], twins, "x").number, 2)


if __name__ == "__main__":
    unittest.main()
