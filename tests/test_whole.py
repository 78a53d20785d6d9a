"""Points 1 and 3 over the whole program: what is handed in, what is told, and what is refused first."""

import unittest
from copy import deepcopy

from filecross.cards import come_to, enough, fewest, needed
from filecross.errors import BadCabinet, BadMarks, BadPapers, BadRule, BadText, NoHead, NoPaper
from filecross.filing import found_by, right
from filecross.likeness import alike, parting
from filecross.mending import amiss, done, mended
from filecross.rules import heads_of, main_of
from filecross.searching import search, slips
from filecross.texts import read_rule, written
from tests.samples import PAPERS, RULE, drawers, refused

CABINET = drawers(RULE, {"car": ["bill", "zoo"], "home": ["bill", "lease"], "rest": ["pass"], "tax": ["lease"]})
DEEDS = [("bill", "car", "tax"), ("zoo", "car", ""), ("note", "", "rest")]
CARDS = [("car", "tax"), ("tax", "home")]
OTHER = [("tax", "a", ""), ("zoo", "h", "")]

# What each function is handed, and the refusals it is to meet for each thing, first to last.
CALLS = {
    heads_of: [RULE, "abc"],
    main_of: [RULE, "abc"],
    right: [RULE, PAPERS],
    found_by: [RULE, PAPERS, "lease"],
    slips: [RULE, "abc", "tax"],
    search: [RULE, CABINET, "pass", "abc"],
    amiss: [RULE, PAPERS, CABINET],
    mended: [RULE, PAPERS, CABINET],
    done: [RULE, CABINET, DEEDS],
    parting: [RULE, OTHER],
    alike: [RULE, OTHER],
    needed: [RULE, PAPERS],
    come_to: [CARDS, "car"],
    enough: [RULE, PAPERS, CARDS],
    fewest: [RULE, PAPERS],
    written: [RULE],
    read_rule: ["tax a -\nzoo - ab"],
}
BAD_RULE = [("tax", "a", "a")]
BAD_PAPERS = [("a", "ba")]
BAD_CABINET = []
REFUSED = {
    heads_of: [(BadRule, BAD_RULE), (BadMarks, "ba")],
    main_of: [(BadRule, BAD_RULE), (BadMarks, "ba")],
    right: [(BadRule, BAD_RULE), (BadPapers, BAD_PAPERS)],
    found_by: [(BadRule, BAD_RULE), (BadPapers, BAD_PAPERS), (NoPaper, "zoo")],
    slips: [(BadRule, BAD_RULE), (BadMarks, "ba"), (NoHead, "zoo")],
    search: [(BadRule, BAD_RULE), (BadCabinet, BAD_CABINET), (None, ""), (BadMarks, "ba")],
    amiss: [(BadRule, BAD_RULE), (BadPapers, BAD_PAPERS), (BadCabinet, BAD_CABINET)],
    mended: [(BadRule, BAD_RULE), (BadPapers, BAD_PAPERS), (BadCabinet, BAD_CABINET)],
    done: [(BadRule, BAD_RULE), (BadCabinet, BAD_CABINET), (NoHead, [("a", "zoo", "tax")])],
    parting: [(BadRule, BAD_RULE), (BadRule, BAD_RULE)],
    alike: [(BadRule, BAD_RULE), (BadRule, BAD_RULE)],
    needed: [(BadRule, BAD_RULE), (BadPapers, BAD_PAPERS)],
    come_to: [(None, []), (None, "")],
    enough: [(BadRule, BAD_RULE), (BadPapers, BAD_PAPERS), (NoHead, [("zoo", "tax")])],
    fewest: [(BadRule, BAD_RULE), (BadPapers, BAD_PAPERS)],
    written: [(BadRule, BAD_RULE)],
    read_rule: [(BadText, "rest - -\nx")],
}


def spoil(told):
    """Change all lists within what is told."""
    if isinstance(told, (list, tuple)):
        for each in told:
            spoil(each)
    if isinstance(told, list):
        told.append("spoilt")


def lists_within(told):
    """Tell all lists within what is told or handed in."""
    if not isinstance(told, (list, tuple)):
        return []
    inner = [each for some in told for each in lists_within(some)]
    return inner + [told] if isinstance(told, list) else inner


class HandedIn(unittest.TestCase):
    def test_nothing_is_changed(self):
        for call, handed in CALLS.items():
            given = deepcopy(handed)
            call(*given)
            self.assertEqual(given, handed, call)

    def test_what_is_told_is_new_each_time(self):
        for call, handed in CALLS.items():
            given = deepcopy(handed)
            told, again, plain = call(*given), call(*given), call(*deepcopy(handed))
            ours = {id(each) for some in given for each in lists_within(some)} | {id(x) for x in lists_within(again)}
            theirs = [id(each) for each in lists_within(told)]
            self.assertEqual([each for each in theirs if each in ours], [], call)
            self.assertEqual(len(set(theirs)), len(theirs), call)
            spoil(told)
            self.assertEqual(again, plain, call)
            self.assertEqual(given, handed, call)
            self.assertEqual(call(*given), plain, call)

    def test_nothing_is_kept(self):
        for call, handed in CALLS.items():
            given = deepcopy(handed)
            told, plain = call(*given), call(*deepcopy(handed))
            for each in given:
                spoil(each)
            self.assertEqual(told, plain, call)

    def test_nothing_is_kept_from_call_to_call(self):
        rule = list(RULE)
        for change in (lambda: rule.pop(), lambda: rule.insert(0, ("zoo", "", "")), lambda: rule.clear()):
            change()
            fresh = list(rule)
            self.assertEqual(needed(rule, PAPERS), needed(fresh, PAPERS))
            self.assertEqual(right(rule, PAPERS), right(fresh, PAPERS))
            self.assertEqual(parting(rule, OTHER), parting(fresh, OTHER))
            self.assertEqual(written(rule), written(fresh))


class RefusedFirst(unittest.TestCase):
    def test_each_thing_ahead_of_all_behind_it(self):
        for call, told in REFUSED.items():
            for place, (kind, bad) in enumerate(told):
                if kind is None:
                    continue
                good = deepcopy(CALLS[call][:place])
                refused(self, kind, call, *good, *[each for other, each in deepcopy(told[place:])])
                refused(self, kind, call, *good, deepcopy(bad), *deepcopy(CALLS[call][place + 1:]))

    def test_all_functions_are_tried(self):
        self.assertEqual(list(CALLS), list(REFUSED))
        for call, told in REFUSED.items():
            self.assertEqual(len(told), len(CALLS[call]), call)


if __name__ == "__main__":
    unittest.main()
