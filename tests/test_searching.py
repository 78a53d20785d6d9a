"""Points 3, 5, 7 and 8: slips, and where a sheet is looked for."""

import unittest

from filecross.errors import BadCabinet, BadMarks, BadRule, NoHead
from filecross.filing import right
from filecross.rules import main_of
from filecross.searching import search, slips
from tests.samples import (ALL_MARKS, MARKS, NO_MARKS, NO_WORDS, PAPERS, RULE, drawers, heads_in, many_rows,
                           random_rules, refused)

BAD_RULE = [("tax", "a", ""), ("rest", "", "")]
SHADED = [("top", "a", ""), ("never", "ab", ""), ("also", "abc", ""), ("low", "b", "")]


def walked(rule, marks):
    """Tell the fewest slips to each main head, by walking from marks to marks, a slip a step."""
    named = {mark for head, needs, bars in rule for mark in needs + bars}
    least, seen, edge, steps = {}, {frozenset(marks)}, [frozenset(marks)], 0
    while edge:
        for here in edge:
            least.setdefault(main_of(rule, "".join(sorted(here))), steps)
        beyond = {here ^ {mark} for here in edge for mark in named} - seen
        seen, edge, steps = seen | beyond, sorted(beyond, key=sorted), steps + 1
    return least


class Slips(unittest.TestCase):
    def test_none_are_needed(self):
        self.assertEqual(slips(RULE, "a", "tax"), 0)
        self.assertEqual(slips(RULE, "", "rest"), 0)

    def test_adding_and_dropping(self):
        self.assertEqual(slips(RULE, "", "tax"), 1)
        self.assertEqual(slips(RULE, "", "home"), 2)
        self.assertEqual(slips(RULE, "a", "rest"), 1)
        self.assertEqual(slips(RULE, "abc", "rest"), 2)
        self.assertEqual(slips(RULE, "abcd", "tax"), 1)

    def test_a_slip_for_each_of_eight_marks(self):
        rule = [("all", "abcdefgh", "")]
        self.assertEqual(slips(rule, "", "all"), 8)
        self.assertEqual(slips(rule, "abcdefgh", "all"), 0)
        self.assertEqual(slips(rule, "abcdefgh", "rest"), 1)
        self.assertEqual(slips([("none", "", "abcdefgh")], "abcdefgh", "none"), 8)

    def test_marks_that_no_row_names_take_no_part(self):
        rule = [("x", "c", "e")]
        self.assertEqual(slips(rule, "abdfgh", "x"), 1)
        self.assertEqual(slips(rule, "abdefgh", "x"), 2)
        self.assertEqual(slips(rule, "abcdfgh", "x"), 0)

    def test_marks_of_bars_are_named_as_well(self):
        self.assertEqual(slips([("x", "", "h")], "", "rest"), 1)
        self.assertEqual(slips([("x", "", "h")], "h", "x"), 1)

    def test_a_head_that_is_never_the_main_one(self):
        for marks in ALL_MARKS:
            self.assertIsNone(slips(SHADED, marks, "never"))
            self.assertIsNone(slips(SHADED, marks, "also"))
            self.assertIsNone(slips([("x", "", "")], marks, "rest"))

    def test_no_slips_is_no_none(self):
        self.assertIs(slips([("x", "", "")], "", "x").__class__, int)

    def test_a_rule_without_rows(self):
        self.assertEqual(slips([], "abcdefgh", "rest"), 0)
        self.assertEqual(slips([], "", "rest"), 0)

    def test_as_walked(self):
        for rule in random_rules(25, 4):
            for marks in ALL_MARKS[::9]:
                least = walked(rule, marks)
                for head in heads_in(rule):
                    self.assertEqual(slips(rule, marks, head), least.get(head))

    def test_marks_that_are_none(self):
        for marks in NO_MARKS:
            refused(self, BadMarks, slips, RULE, marks, "tax")

    def test_heads_that_are_none_of_the_rule(self):
        for head in NO_WORDS + ["ta", "taxi", "Rest", "re", "zoo"]:
            refused(self, NoHead, slips, RULE, "a", head)
        refused(self, NoHead, slips, [], "", "tax")

    def test_rules_then_marks_then_heads(self):
        self.assertEqual(refused(self, BadRule, slips, BAD_RULE, "ba", "zoo").number, 1)
        self.assertEqual(refused(self, BadRule, slips, many_rows(13), "", "tax").number, 12)
        refused(self, BadMarks, slips, RULE, "ba", "zoo")

    def test_nothing_is_changed_or_kept(self):
        rule = list(RULE)
        self.assertEqual(slips(rule, "", "home"), 2)
        self.assertEqual(rule, RULE)
        rule.insert(0, ("home", "", ""))
        self.assertEqual(slips(rule, "", "home"), 0)


class Search(unittest.TestCase):
    def test_where_it_lies_right(self):
        self.assertEqual(search(RULE, right(RULE, PAPERS), "bill", "a"), (["tax"], "tax"))

    def test_as_few_slips_first_then_as_texts(self):
        empty = drawers(RULE, {})
        self.assertEqual(search(RULE, empty, "bill", "a"), (["tax", "home", "rest", "car"], None))
        # From these marks car takes no slip, home and rest one, tax two.
        self.assertEqual(search(RULE, empty, "bill", "bc"), (["car", "home", "rest", "tax"], None))
        self.assertEqual(search(RULE, empty, "bill", ""), (["rest", "car", "tax", "home"], None))

    def test_up_to_the_one_where_it_lies(self):
        order = ["rest", "car", "tax", "home"]
        for count, head in enumerate(order):
            cabinet = drawers(RULE, {"home": ["ant"], head: ["bill", "zoo"]})
            self.assertEqual(search(RULE, cabinet, "bill", ""), (order[:count + 1], head))

    def test_a_sheet_that_lies_twice_is_found_at_the_first(self):
        cabinet = drawers(RULE, {"home": ["bill"], "tax": ["bill"]})
        self.assertEqual(search(RULE, cabinet, "bill", ""), (["rest", "car", "tax"], "tax"))
        self.assertEqual(search(RULE, cabinet, "bill", "ab"), (["home"], "home"))

    def test_heads_that_are_never_the_main_one_come_last(self):
        told = (["top", "rest", "low", "also", "never"], None)
        self.assertEqual(search(SHADED, drawers(SHADED, {}), "x", "a"), told)
        lying = drawers(SHADED, {"never": ["x"], "also": ["y"]})
        self.assertEqual(search(SHADED, lying, "x", "a"), (told[0], "never"))
        self.assertEqual(search(SHADED, lying, "y", "a"), (told[0][:4], "also"))

    def test_rest_that_is_never_the_main_one(self):
        rule = [("z", "", "")]
        self.assertEqual(search(rule, [("rest", ["x"]), ("z", [])], "x", ""), (["z", "rest"], "rest"))

    def test_heads_that_are_beginnings_of_others(self):
        rule = [("tb", "a", ""), ("t", "b", ""), ("ta", "c", ""), ("tab", "d", "")]
        told = ["rest", "t", "ta", "tab", "tb"]
        self.assertEqual(search(rule, drawers(rule, {}), "x", ""), (told, None))

    def test_a_rule_without_rows(self):
        self.assertEqual(search([], [("rest", [])], "x", "ah"), (["rest"], None))
        self.assertEqual(search([], [("rest", ["x"])], "x", ""), (["rest"], "rest"))

    def test_the_name_itself_is_looked_for(self):
        cabinet = drawers(RULE, {"rest": ["bil", "bills"], "tax": ["ill"]})
        self.assertEqual(search(RULE, cabinet, "bill", "a")[1], None)

    def test_a_name_that_can_be_none_is_gone(self):
        self.assertEqual(search(RULE, right(RULE, PAPERS), "", "a")[1], None)

    def test_kinds(self):
        told = search(RULE, drawers(RULE, {}), "x", "")
        self.assertEqual((told.__class__, told[0].__class__), (tuple, list))

    def test_order_as_walked(self):
        for rule in random_rules(30, 5):
            for marks in ALL_MARKS[::11]:
                least = walked(rule, marks)
                order = sorted(heads_in(rule), key=lambda head: (least.get(head, 99), head))
                self.assertEqual(search(rule, drawers(rule, {}), "x", marks), (order, None))
                lying = order[len(marks) % len(order)]
                told = (order[:order.index(lying) + 1], lying)
                self.assertEqual(search(rule, drawers(rule, {lying: ["x"]}), "x", marks), told)

    def test_filed_but_for_some_slips_none_of_more_slips_is_looked_under(self):
        for rule in random_rules(8, 6):
            named = {mark for head, needs, bars in rule for mark in needs + bars}
            for marks in ALL_MARKS[::17]:
                for filed in ALL_MARKS[::5]:
                    changed = set(marks) ^ set(filed)
                    if not changed <= named:
                        continue
                    cabinet = drawers(rule, {main_of(rule, filed): ["x"]})
                    looked, head = search(rule, cabinet, "x", marks)
                    self.assertEqual(head, main_of(rule, filed))
                    for other in looked:
                        self.assertLessEqual(slips(rule, marks, other), len(changed))

    def test_nothing_is_changed_or_kept(self):
        rule, cabinet = list(RULE), drawers(RULE, {"home": ["bill"]})
        told = search(rule, cabinet, "bill", "")
        told[0].append("zoo")
        self.assertEqual((rule, cabinet), (RULE, drawers(RULE, {"home": ["bill"]})))
        self.assertEqual(search(rule, cabinet, "bill", ""), (["rest", "car", "tax", "home"], "home"))
        cabinet[2][1].append("bill")
        self.assertEqual(search(rule, cabinet, "bill", ""), (["rest"], "rest"))


class Cabinets(unittest.TestCase):
    def number(self, cabinet, rule=RULE):
        return refused(self, BadCabinet, search, rule, cabinet, "bill", "").number

    def test_another_head(self):
        for number in range(4):
            for head in ["zoo", "", "TAX", "ta"]:
                cabinet = drawers(RULE, {})
                cabinet[number] = (head, [])
                self.assertEqual(self.number(cabinet), number)

    def test_drawers_that_do_not_rise(self):
        self.assertEqual(self.number([("car", []), ("rest", []), ("home", []), ("tax", [])]), 1)
        self.assertEqual(self.number([("tax", []), ("rest", []), ("home", []), ("car", [])]), 0)
        self.assertEqual(self.number([("car", []), ("car", []), ("home", []), ("rest", []), ("tax", [])]), 1)

    def test_one_drawer_too_many(self):
        self.assertEqual(self.number(drawers(RULE, {}) + [("zoo", [])]), 4)
        self.assertEqual(self.number(drawers(RULE, {}) + [("tax", []), ("tax", [])]), 4)

    def test_one_is_lacking(self):
        for count in range(4):
            self.assertEqual(self.number(drawers(RULE, {})[:count]), count)
        self.assertEqual(self.number([], []), 0)

    def test_one_is_lacking_in_the_midst(self):
        # Where home belongs stands another head.
        self.assertEqual(self.number([("car", []), ("rest", []), ("tax", [])]), 1)
        self.assertEqual(self.number([("home", []), ("rest", []), ("tax", [])]), 0)

    def test_rest_has_its_drawer(self):
        self.assertEqual(self.number([("car", []), ("home", []), ("tax", [])]), 2)

    def test_names_that_are_none(self):
        for name in NO_WORDS:
            self.assertEqual(self.number(drawers(RULE, {"home": [name]})), 1, name)
            self.assertEqual(self.number(drawers(RULE, {"rest": ["a", name]})), 2, name)

    def test_names_that_do_not_rise(self):
        for names in [["b", "a"], ["a", "a"], ["a", "c", "b"], ["ab", "a"], ["a", "b", "a"]]:
            cabinet = drawers(RULE, {})
            cabinet[3] = ("tax", names)
            self.assertEqual(self.number(cabinet), 3, names)

    def test_names_that_rise(self):
        cabinet = drawers(RULE, {"rest": ["a", "ab", "b", "rest", "zzzzzz"], "tax": ["a", "b"]})
        self.assertEqual(search(RULE, cabinet, "zzzzzz", ""), (["rest"], "rest"))

    def test_more_than_twelve_names_may_lie_in_a_drawer(self):
        names = [one + other for one in "ab" for other in "abcdefghij"]
        self.assertEqual(search([], [("rest", names)], "bj", ""), (["rest"], "rest"))

    def test_the_first_that_cannot_be(self):
        self.assertEqual(self.number([("car", []), ("home", ["A"]), ("zoo", [])]), 1)
        self.assertEqual(self.number([("car", ["b", "a"]), ("zoo", [])]), 0)
        self.assertEqual(self.number([("car", []), ("home", []), ("rest", ["a", "a"])]), 2)

    def test_rules_then_cabinets_then_marks(self):
        self.assertEqual(refused(self, BadRule, search, BAD_RULE, [], "bill", "ba").number, 1)
        self.assertEqual(refused(self, BadCabinet, search, RULE, [], "bill", "ba").number, 0)
        for marks in NO_MARKS:
            refused(self, BadMarks, search, RULE, drawers(RULE, {}), "bill", marks)
        refused(self, BadMarks, search, RULE, right(RULE, PAPERS), "", MARKS + "i")


if __name__ == "__main__":
    unittest.main()
