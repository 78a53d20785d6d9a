"""Points 3, 5, 7, 9 and 10: what is amiss, the deeds that mend it, and the cabinet behind deeds."""

import unittest
from itertools import product
from random import Random

from filecross.errors import BadCabinet, BadPapers, BadRule, NoHead
from filecross.filing import right
from filecross.mending import amiss, done, mended
from filecross.rules import main_of
from filecross.searching import search, slips
from tests.samples import (ALL_MARKS, NO_WORDS, PAPERS, RULE, drawers, heads_in, many_papers, many_rows,
                           random_rule, refused)

BAD_RULE = [("tax", "a", ""), ("rest", "", "")]
BAD_PAPERS = [("a", ""), ("b", ""), ("a", "")]
SHADED = [("top", "a", ""), ("never", "ab", ""), ("low", "b", "")]
# bill belongs under tax, lease under home, note under rest and pass under car.
ALL_AT_ONCE = {"car": ["bill", "lease", "zoo"], "home": ["bill", "lease"], "rest": ["ant", "pass"], "tax": ["zoo"]}
AMISS_AT_ONCE = [
    ("ant", "strange", "rest"),
    ("bill", "astray", "home"),
    ("bill", "twice", "car"),
    ("lease", "twice", "car"),
    ("note", "gone", "rest"),
    ("pass", "astray", "rest"),
    ("zoo", "strange", "car"),
    ("zoo", "strange", "tax"),
]


def plain_amiss(rule, papers, cabinet):
    """Tell what is amiss, by the words of point 9."""
    told, marks_of = set(), dict(papers)
    lying = {(name, head) for head, names in cabinet for name in names}
    for name, head in lying:
        if name not in marks_of:
            told.add((name, "strange", head))
    for name, marks in papers:
        heads = {head for other, head in lying if other == name}
        main = main_of(rule, marks)
        if not heads:
            told.add((name, "gone", main))
        elif main in heads:
            told |= {(name, "twice", head) for head in heads - {main}}
        else:
            first = search(rule, cabinet, name, marks)[1]
            told.add((name, "astray", first))
            told |= {(name, "twice", head) for head in heads - {first}}
    return sorted(told)


def random_case(chance):
    """Tell a rule, papers and a cabinet in which much is amiss."""
    rule = random_rule(chance)
    papers = [(name, chance.choice(ALL_MARKS[:60])) for name in chance.sample(list("abcdef"), 4)]
    lying = {head: [name for name in "abcdef" if chance.random() < 0.3] for head in heads_in(rule)}
    return rule, papers, drawers(rule, lying)


def every_lying(names, heads):
    """Tell all sets of (name, head), each a way in which sheets may lie."""
    places = list(product(names, heads))
    return [{place for place, there in zip(places, some) if there}
            for some in product([False, True], repeat=len(places))]


class Amiss(unittest.TestCase):
    def told(self, lying, papers=PAPERS, rule=RULE):
        return amiss(rule, papers, drawers(rule, lying))

    def test_nothing_in_the_right_cabinet(self):
        self.assertEqual(amiss(RULE, PAPERS, right(RULE, PAPERS)), [])
        self.assertEqual(amiss([], [], [("rest", [])]), [])

    def test_gone(self):
        self.assertEqual(self.told({}, [("bill", "a")]), [("bill", "gone", "tax")])
        self.assertEqual(self.told({}, [("note", "")]), [("note", "gone", "rest")])

    def test_astray(self):
        for head in ["car", "home", "rest"]:
            self.assertEqual(self.told({head: ["bill"]}, [("bill", "a")]), [("bill", "astray", head)])

    def test_twice_beside_the_main_head(self):
        lying = {"home": ["bill"], "rest": ["bill"], "tax": ["bill"]}
        self.assertEqual(self.told(lying, [("bill", "a")]), [("bill", "twice", "home"), ("bill", "twice", "rest")])

    def test_astray_and_twice(self):
        # From no marks one looks under rest, car, tax and home.
        lying = {"car": ["note"], "home": ["note"], "tax": ["note"]}
        told = [("note", "astray", "car"), ("note", "twice", "home"), ("note", "twice", "tax")]
        self.assertEqual(self.told(lying, [("note", "")]), told)

    def test_astray_is_the_head_that_is_looked_under_first_not_the_least_one(self):
        lying = {"home": ["note"], "tax": ["note"]}
        self.assertEqual(slips(RULE, "", "tax"), 1)
        self.assertEqual(slips(RULE, "", "home"), 2)
        self.assertEqual(self.told(lying, [("note", "")]), [("note", "astray", "tax"), ("note", "twice", "home")])

    def test_astray_under_a_head_that_is_never_the_main_one(self):
        told = self.told({"never": ["x"], "low": ["x"]}, [("x", "a")], SHADED)
        self.assertEqual(told, [("x", "astray", "low"), ("x", "twice", "never")])
        self.assertEqual(self.told({"never": ["x"]}, [("x", "a")], SHADED), [("x", "astray", "never")])

    def test_strange_under_each_head(self):
        lying = {"home": ["zoo"], "tax": ["ant", "zoo"]}
        told = [("ant", "strange", "tax"), ("zoo", "strange", "home"), ("zoo", "strange", "tax")]
        self.assertEqual(self.told(lying, []), told)
        self.assertEqual(self.told({"rest": ["bil"], "tax": ["bill"]}, [("bill", "a")]), [("bil", "strange", "rest")])

    def test_all_at_once(self):
        self.assertEqual(self.told(ALL_AT_ONCE), AMISS_AT_ONCE)
        self.assertEqual(self.told(ALL_AT_ONCE, PAPERS[::-1]), AMISS_AT_ONCE)

    def test_a_rule_without_rows(self):
        told = amiss([], [("a", ""), ("b", "h")], [("rest", ["b", "c"])])
        self.assertEqual(told, [("a", "gone", "rest"), ("c", "strange", "rest")])

    def test_by_chance(self):
        chance = Random(7)
        for _ in range(300):
            case = random_case(chance)
            self.assertEqual(amiss(*case), plain_amiss(*case))

    def test_kinds(self):
        told = self.told(ALL_AT_ONCE)
        self.assertIs(told.__class__, list)
        self.assertEqual({thing.__class__ for thing in told}, {tuple})


class Mended(unittest.TestCase):
    def test_nothing_is_to_be_done(self):
        self.assertEqual(mended(RULE, PAPERS, right(RULE, PAPERS)), [])

    def test_gone_is_laid_anew(self):
        self.assertEqual(mended(RULE, [("bill", "a")], drawers(RULE, {})), [("bill", "", "tax")])

    def test_astray_is_laid_under_its_main_head(self):
        self.assertEqual(mended(RULE, [("bill", "a")], drawers(RULE, {"car": ["bill"]})), [("bill", "car", "tax")])

    def test_twice_and_strange_are_taken_out(self):
        cabinet = drawers(RULE, {"car": ["bill"], "rest": ["zoo"], "tax": ["bill"]})
        self.assertEqual(mended(RULE, [("bill", "a")], cabinet), [("bill", "car", ""), ("zoo", "rest", "")])

    def test_astray_and_twice(self):
        # The one under tax, that is looked under first, is laid right; the one under home is taken out.
        cabinet = drawers(RULE, {"home": ["note"], "tax": ["note"]})
        self.assertEqual(mended(RULE, [("note", "")], cabinet), [("note", "home", ""), ("note", "tax", "rest")])

    def test_all_at_once(self):
        told = [
            ("ant", "rest", ""),
            ("bill", "car", ""),
            ("bill", "home", "tax"),
            ("lease", "car", ""),
            ("note", "", "rest"),
            ("pass", "rest", "car"),
            ("zoo", "car", ""),
            ("zoo", "tax", ""),
        ]
        cabinet = drawers(RULE, ALL_AT_ONCE)
        self.assertEqual(mended(RULE, PAPERS, cabinet), told)
        self.assertEqual(mended(RULE, PAPERS[::-1], cabinet), told)
        self.assertEqual(done(RULE, cabinet, told), right(RULE, PAPERS))

    def test_the_deeds_rise_though_the_things_amiss_stand_otherwise(self):
        cabinet = drawers(RULE, {"home": ["bill"], "car": ["bill"]})
        self.assertEqual(amiss(RULE, [("bill", "a")], cabinet), [("bill", "astray", "home"), ("bill", "twice", "car")])
        self.assertEqual(mended(RULE, [("bill", "a")], cabinet), [("bill", "car", ""), ("bill", "home", "tax")])

    def test_behind_the_deeds_the_cabinet_is_right(self):
        chance = Random(8)
        for _ in range(300):
            rule, papers, cabinet = random_case(chance)
            told = mended(rule, papers, cabinet)
            self.assertEqual(done(rule, cabinet, told), right(rule, papers))
            self.assertEqual(told, sorted(told))
            self.assertEqual(len(told), len(amiss(rule, papers, cabinet)))

    def test_no_fewer_deeds_are_enough(self):
        rule, papers = [("x", "a", ""), ("y", "b", "")], [("p", "a")]
        places = ["", "rest", "x", "y"]
        deeds = [(name, start, goal) for name in "pq" for start in places for goal in places]
        cabinets = [drawers(rule, {head: [name for name in "pq" if (name, head) in lying] for head in places[1:]})
                    for lying in every_lying("pq", places[1:])]
        beyond = {repr(cabinet): {repr(done(rule, cabinet, [deed])) for deed in deeds} for cabinet in cabinets}
        for cabinet in cabinets:
            here, steps = {repr(cabinet)}, 0
            while repr(right(rule, papers)) not in here:
                here, steps = set().union(*[beyond[one] for one in here]), steps + 1
            self.assertEqual(len(mended(rule, papers, cabinet)), steps)


class Done(unittest.TestCase):
    def after(self, lying, *deeds):
        return done(RULE, drawers(RULE, lying), list(deeds))

    def test_no_deeds(self):
        self.assertEqual(self.after(ALL_AT_ONCE), drawers(RULE, ALL_AT_ONCE))

    def test_from_head_to_head(self):
        told = self.after({"car": ["a", "b"], "tax": ["a", "c"]}, ("b", "car", "tax"))
        self.assertEqual(told, drawers(RULE, {"car": ["a"], "tax": ["a", "b", "c"]}))

    def test_from_nowhere(self):
        told = self.after({"car": ["c"], "tax": ["b"]}, ("b", "", "car"))
        self.assertEqual(told, drawers(RULE, {"car": ["b", "c"], "tax": ["b"]}))

    def test_to_nowhere(self):
        told = self.after({"car": ["b", "c"], "tax": ["b"]}, ("b", "car", ""))
        self.assertEqual(told, drawers(RULE, {"car": ["c"], "tax": ["b"]}))

    def test_from_nowhere_to_nowhere(self):
        for name in ["b", "x"]:
            self.assertEqual(self.after({"car": ["b"]}, (name, "", "")), drawers(RULE, {"car": ["b"]}))

    def test_a_deed_whose_sheet_is_not_there_does_nothing(self):
        lying = {"car": ["b"], "tax": ["c"]}
        for deed in [("b", "tax", "home"), ("b", "home", ""), ("x", "car", "tax"), ("c", "rest", "tax")]:
            self.assertEqual(self.after(lying, deed), drawers(RULE, lying))

    def test_where_one_lies_already(self):
        lying = {"car": ["b"], "tax": ["b"]}
        self.assertEqual(self.after(lying, ("b", "car", "tax")), drawers(RULE, {"tax": ["b"]}))
        self.assertEqual(self.after(lying, ("b", "", "tax")), drawers(RULE, lying))

    def test_from_a_head_to_itself(self):
        lying = {"car": ["a", "b", "c"]}
        self.assertEqual(self.after(lying, ("b", "car", "car")), drawers(RULE, lying))
        self.assertEqual(self.after(lying, ("b", "tax", "tax")), drawers(RULE, lying))

    def test_in_turn(self):
        lay, move, drop = ("b", "", "car"), ("b", "car", "tax"), ("b", "tax", "")
        self.assertEqual(self.after({}, lay, move), drawers(RULE, {"tax": ["b"]}))
        self.assertEqual(self.after({}, move, lay), drawers(RULE, {"car": ["b"]}))
        self.assertEqual(self.after({}, lay, move, drop), drawers(RULE, {}))
        self.assertEqual(self.after({}, drop, lay, move), drawers(RULE, {"tax": ["b"]}))

    def test_the_same_deed_again(self):
        self.assertEqual(self.after({"car": ["b"]}, *[("b", "car", "tax")] * 2), drawers(RULE, {"tax": ["b"]}))
        self.assertEqual(self.after({}, *[("b", "", "tax")] * 2), drawers(RULE, {"tax": ["b"]}))

    def test_drawers_go_on_to_rise(self):
        told = self.after({"tax": ["b", "d"]}, ("c", "", "tax"), ("ab", "", "tax"), ("a", "", "tax"), ("e", "", "tax"))
        self.assertEqual(told, drawers(RULE, {"tax": ["a", "ab", "b", "c", "d", "e"]}))

    def test_a_rule_without_rows(self):
        self.assertEqual(done([], [("rest", ["a"])], [("b", "", "rest"), ("a", "rest", "")]), [("rest", ["b"])])

    def test_kinds(self):
        told = self.after({"tax": ["b"]}, ("b", "tax", "car"))
        self.assertIs(told.__class__, list)
        self.assertEqual({(drawer.__class__, drawer[1].__class__) for drawer in told}, {(tuple, list)})

    def test_other_heads(self):
        for head in [word for word in NO_WORDS if word] + ["zoo", "ta", "taxi", "Rest"]:
            for deed in [("b", head, "tax"), ("b", "tax", head), ("b", "", head), ("b", head, ""), ("b", head, head)]:
                refused(self, NoHead, done, RULE, drawers(RULE, {"tax": ["b"]}), [deed])
        refused(self, NoHead, done, [], [("rest", [])], [("a", "", "rest"), ("a", "rest", "tax")])

    def test_other_heads_behind_deeds_that_do_nothing(self):
        refused(self, NoHead, done, RULE, drawers(RULE, {}), [("b", "car", "zoo")])
        refused(self, NoHead, done, RULE, drawers(RULE, {}), [("b", "", "tax"), ("b", "", "zoo")])


class Refusals(unittest.TestCase):
    def test_rules_then_papers_then_cabinets(self):
        for call in (amiss, mended):
            self.assertEqual(refused(self, BadRule, call, BAD_RULE, BAD_PAPERS, []).number, 1)
            self.assertEqual(refused(self, BadRule, call, many_rows(13), BAD_PAPERS, []).number, 12)
            self.assertEqual(refused(self, BadPapers, call, RULE, BAD_PAPERS, []).number, 2)
            self.assertEqual(refused(self, BadPapers, call, RULE, many_papers(13), []).number, 12)
            self.assertEqual(refused(self, BadCabinet, call, RULE, PAPERS, []).number, 0)

    def test_rules_then_cabinets_then_deeds(self):
        deeds = [("b", "zoo", "zoo")]
        self.assertEqual(refused(self, BadRule, done, BAD_RULE, [], deeds).number, 1)
        self.assertEqual(refused(self, BadCabinet, done, RULE, [], deeds).number, 0)
        refused(self, NoHead, done, RULE, drawers(RULE, {}), deeds)

    def test_cabinets_that_cannot_be(self):
        for call in (amiss, mended):
            for number in range(4):
                cabinet = drawers(RULE, {})
                cabinet[number] = (cabinet[number][0], ["b", "a"])
                self.assertEqual(refused(self, BadCabinet, call, RULE, PAPERS, cabinet).number, number)
                self.assertEqual(refused(self, BadCabinet, done, RULE, cabinet, []).number, number)
                short = drawers(RULE, {})[:number]
                self.assertEqual(refused(self, BadCabinet, call, RULE, PAPERS, short).number, number)
                self.assertEqual(refused(self, BadCabinet, done, RULE, short, []).number, number)
            long = drawers(RULE, {}) + [("zoo", [])]
            self.assertEqual(refused(self, BadCabinet, call, RULE, PAPERS, long).number, 4)


if __name__ == "__main__":
    unittest.main()
