"""Points 4, 12 and 13: what cards are needed, where they lead, and the fewest that are enough."""

import unittest
from itertools import combinations, permutations
from random import Random

from filecross.cards import come_to, enough, fewest, needed
from filecross.errors import BadPapers, BadRule, NoHead
from filecross.rules import heads_of, main_of
from tests.samples import (ALL_MARKS, MARKS, NO_WORDS, PAPERS, RULE, heads_in, letters, many_papers, many_rows,
                           random_rule, refused)

BAD_RULE = [("tax", "a", ""), ("rest", "", "")]
BAD_PAPERS = [("a", ""), ("b", ""), ("a", "")]


def case_of(*needs):
    """Tell a rule and papers with just these needs: texts of a head and the main one, at most six."""
    rule, papers = [], []
    for mark, (head, main) in zip(MARKS, needs):
        rule += [(main, mark, ""), (head, mark, "")]
        papers.append((mark, mark))
    return rule, papers


def plain_come_to(cards, head):
    """Tell all heads that one comes to, card by card, until no more come."""
    reached = {head}
    while True:
        beyond = reached | {goal for start, goal in cards if start in reached}
        if beyond == reached:
            return sorted(reached)
        reached = beyond


def plain_count(needs):
    """Tell how many cards are the fewest, by the words in brackets of point 13."""
    both = needs + [(main, head) for head, main in needs]
    groups = {tuple(plain_come_to(both, head)) for head, main in needs}
    count = 0
    for group in groups:
        inner = [need for need in needs if need[0] in group]
        rounds = [need for need in inner if need[0] in plain_come_to(inner, need[1])]
        count += len(group) if rounds else len(group) - 1
    return count


def least_by_trying(heads, needs):
    """Tell how many cards are the fewest, by trying all cards between the heads."""
    every = list(permutations(heads, 2))
    for count in range(len(every) + 1):
        for cards in combinations(every, count):
            if all(main in plain_come_to(cards, head) for head, main in needs):
                return count


class Needed(unittest.TestCase):
    def test_each_head_that_is_not_the_main_one(self):
        self.assertEqual(needed(RULE, PAPERS), [("car", "home")])
        self.assertEqual(needed(RULE, [("p", "acd")]), [("car", "tax")])
        rule = [("m", "", ""), ("z", "", ""), ("a", "", "")]
        self.assertEqual(needed(rule, [("p", "")]), [("a", "m"), ("z", "m")])

    def test_none(self):
        self.assertEqual(needed([], []), [])
        self.assertEqual(needed(RULE, []), [])
        self.assertEqual(needed([], many_papers(12)), [])
        self.assertEqual(needed(RULE, [("p", "a"), ("q", ""), ("r", "ad")]), [])

    def test_of_papers_only(self):
        rule, papers = case_of("xy", "yz")
        self.assertEqual(needed(rule, papers), [("x", "y"), ("y", "z")])
        self.assertEqual(needed(rule, papers[:1]), [("x", "y")])

    def test_each_once(self):
        rule, papers = case_of("xy")
        self.assertEqual(needed(rule, papers + [("other", "a"), ("third", "ah")]), [("x", "y")])

    def test_there_and_back_are_two(self):
        self.assertEqual(needed(*case_of("xy", "yx")), [("x", "y"), ("y", "x")])

    def test_they_rise(self):
        self.assertEqual(needed(*case_of("zy", "za", "bz", "ab")), [("a", "b"), ("b", "z"), ("z", "a"), ("z", "y")])

    def test_by_chance(self):
        chance = Random(12)
        for _ in range(100):
            rule = random_rule(chance, 10)
            papers = [(name, chance.choice(ALL_MARKS)) for name in "abcdefg"]
            told = {(head, main_of(rule, marks)) for name, marks in papers for head in heads_of(rule, marks)}
            self.assertEqual(needed(rule, papers), sorted(need for need in told if need[0] != need[1]))


class ComeTo(unittest.TestCase):
    def test_itself(self):
        self.assertEqual(come_to([], "tax"), ["tax"])
        self.assertEqual(come_to([("car", "home")], "tax"), ["tax"])

    def test_one_behind_another(self):
        cards = [("c", "d"), ("b", "c"), ("a", "b")]
        self.assertEqual(come_to(cards, "a"), ["a", "b", "c", "d"])
        self.assertEqual(come_to(cards[::-1], "a"), ["a", "b", "c", "d"])
        self.assertEqual(come_to(cards, "c"), ["c", "d"])

    def test_cards_are_not_gone_back(self):
        self.assertEqual(come_to([("a", "b")], "b"), ["b"])

    def test_cards_that_lead_back(self):
        ring = [("a", "b"), ("b", "c"), ("c", "a")]
        for head in "abc":
            self.assertEqual(come_to(ring, head), ["a", "b", "c"])
        self.assertEqual(come_to([("a", "b"), ("b", "a")], "b"), ["a", "b"])
        self.assertEqual(come_to([("a", "a")], "a"), ["a"])

    def test_cards_told_twice(self):
        self.assertEqual(come_to([("a", "b"), ("a", "b"), ("b", "c"), ("b", "c")], "a"), ["a", "b", "c"])

    def test_several_ways(self):
        self.assertEqual(come_to([("a", "c"), ("a", "b"), ("b", "d"), ("c", "d"), ("e", "a")], "a"), list("abcd"))

    def test_they_rise(self):
        self.assertEqual(come_to([("tax", "taxi"), ("taxi", "a"), ("a", "rest"), ("rest", "ta")], "tax"),
                         ["a", "rest", "ta", "tax", "taxi"])

    def test_a_hundred_cards(self):
        heads = [one + other for one in "abcdefghij" for other in "abcdefghij"]
        cards = list(zip(heads, heads[1:]))
        self.assertEqual(come_to(cards[::-1], "aa"), heads)
        self.assertEqual(come_to(cards, "ja"), heads[90:])

    def test_by_chance(self):
        chance = Random(13)
        for _ in range(300):
            cards = [(chance.choice("abcdefg"), chance.choice("abcdefg")) for _ in range(chance.randrange(9))]
            self.assertEqual(come_to(cards, "a"), plain_come_to(cards, "a"))


class Enough(unittest.TestCase):
    def test_straight_and_by_others(self):
        case = case_of("xy", "yz")
        self.assertIs(enough(*case, [("x", "y"), ("y", "z")]), True)
        self.assertIs(enough(*case, [("x", "z"), ("z", "y"), ("y", "z")]), True)
        self.assertIs(enough(*case, [("x", "y")]), False)
        self.assertIs(enough(*case, []), False)

    def test_the_wrong_way(self):
        self.assertIs(enough(*case_of("xy"), [("y", "x")]), False)
        self.assertIs(enough(*case_of("xy", "yx"), [("x", "y")]), False)
        self.assertIs(enough(*case_of("xy", "yx"), [("x", "y"), ("y", "x")]), True)

    def test_none_are_needed(self):
        self.assertIs(enough(RULE, [], []), True)
        self.assertIs(enough([], many_papers(12), []), True)
        self.assertIs(enough(RULE, [], [("car", "rest")]), True)

    def test_by_the_head_rest(self):
        self.assertIs(enough(*case_of("xy"), [("rest", "y"), ("x", "rest")]), True)

    def test_more_than_are_needed(self):
        case = case_of("xy")
        self.assertIs(enough(*case, [("x", "y"), ("x", "y"), ("y", "x"), ("x", "x")]), True)

    def test_a_main_head_with_two_others(self):
        rule = [("m", "", ""), ("z", "", ""), ("a", "", "")]
        self.assertIs(enough(rule, [("p", "")], [("a", "m")]), False)
        self.assertIs(enough(rule, [("p", "")], [("a", "z"), ("z", "m")]), True)

    def test_other_heads(self):
        for head in NO_WORDS + ["zoo", "ta", "taxi", "Rest"]:
            refused(self, NoHead, enough, RULE, PAPERS, [(head, "tax")])
            refused(self, NoHead, enough, RULE, PAPERS, [("tax", head)])
            refused(self, NoHead, enough, RULE, PAPERS, [("car", "home"), (head, head)])
        refused(self, NoHead, enough, [], [], [("rest", "tax")])

    def test_by_chance(self):
        chance = Random(14)
        seen = set()
        for _ in range(300):
            rule = random_rule(chance, 10)
            papers = [(name, chance.choice(ALL_MARKS)) for name in "abcd"]
            heads = heads_in(rule)
            cards = [(chance.choice(heads), chance.choice(heads)) for _ in range(chance.randrange(6))]
            told = all(main in plain_come_to(cards, head) for head, main in needed(rule, papers))
            self.assertIs(enough(rule, papers, cards), told)
            seen.add(told)
        self.assertEqual(seen, {False, True})


class Fewest(unittest.TestCase):
    def check(self, case, count):
        cards = fewest(*case)
        self.assertIs(enough(*case, cards), True)
        self.assertEqual(len(cards), count)
        self.assertEqual(cards, sorted(set(cards)))
        self.assertEqual(plain_count(needed(*case)), count)
        for start, goal in cards:
            self.assertNotEqual(start, goal)

    def test_none(self):
        self.assertEqual(fewest([], []), [])
        self.assertEqual(fewest(RULE, []), [])
        self.assertEqual(fewest([], many_papers(12)), [])

    def test_one_that_cannot_be_another(self):
        self.assertEqual(fewest(*case_of("xy")), [("x", "y")])
        self.assertEqual(fewest(*case_of("xy", "yx")), [("x", "y"), ("y", "x")])
        self.assertEqual(fewest(RULE, PAPERS), [("car", "home")])

    def test_needs_that_do_not_go_round(self):
        self.check(case_of("xy", "yz"), 2)
        self.check(case_of("xy", "yz", "xz"), 2)
        self.check(case_of("ax", "bx", "cx"), 3)
        self.check(case_of("xa", "xb", "xc"), 3)
        self.check(case_of("wy", "wz", "xy", "xz"), 3)
        self.check(case_of("ab", "ac", "ad", "bc", "bd", "cd"), 3)

    def test_needs_that_go_round(self):
        self.check(case_of("xy", "yz", "zx"), 3)
        self.check(case_of("ab", "bc", "cd", "de", "ef", "fa"), 6)
        self.check(case_of("xy", "yz", "zx", "xz", "zy", "yx"), 3)

    def test_a_few_of_a_group_go_round(self):
        self.check(case_of("ab", "ba", "bc"), 3)
        self.check(case_of("ca", "ab", "ba", "bd"), 4)
        self.check(case_of("ab", "ba", "cd", "dc", "bc"), 4)

    def test_several_groups(self):
        self.check(case_of("ab", "cd"), 2)
        self.check(case_of("ab", "cd", "ef"), 3)
        self.check(case_of("ab", "cd", "dc"), 3)
        self.check(case_of("ab", "ba", "cd", "dc"), 4)
        self.check(case_of("ab", "ba", "cd", "dc", "ef", "fe"), 6)
        self.check(case_of("ab", "bc", "ca", "de", "ef", "df"), 5)
        self.check(case_of("fa", "eb", "dc", "ae"), 4)

    def test_many_heads_of_one_paper(self):
        rule = [(head, "", "") for head in reversed(letters(6))]
        self.check((rule, [("p", "")]), 5)

    def test_no_fewer_are_enough(self):
        every = ["".join(pair) for pair in permutations("abcd", 2)]
        chance = Random(15)
        for _ in range(120):
            case = case_of(*chance.sample(every, chance.randrange(1, 6)))
            self.check(case, least_by_trying("abcd", needed(*case)))

    def test_by_chance(self):
        chance = Random(16)
        for _ in range(200):
            rule = random_rule(chance, 12)
            case = (rule, [(name, chance.choice(ALL_MARKS)) for name in letters(12)])
            self.check(case, plain_count(needed(*case)))
        every = ["".join(pair) for pair in permutations("abcdef", 2)]
        for _ in range(200):
            case = case_of(*chance.sample(every, 6))
            self.check(case, plain_count(needed(*case)))

    def test_kinds(self):
        for told in (fewest(*case_of("xy", "yx")), needed(*case_of("xy", "yx"))):
            self.assertIs(told.__class__, list)
            self.assertEqual({each.__class__ for each in told}, {tuple})


class Refusals(unittest.TestCase):
    def test_rules_then_papers(self):
        for call in (needed, fewest):
            self.assertEqual(refused(self, BadRule, call, BAD_RULE, BAD_PAPERS).number, 1)
            self.assertEqual(refused(self, BadRule, call, many_rows(13), BAD_PAPERS).number, 12)
            self.assertEqual(refused(self, BadPapers, call, RULE, BAD_PAPERS).number, 2)
            self.assertEqual(refused(self, BadPapers, call, [], many_papers(13)).number, 12)

    def test_rules_then_papers_then_cards(self):
        cards = [("zoo", "zoo")]
        self.assertEqual(refused(self, BadRule, enough, BAD_RULE, BAD_PAPERS, cards).number, 1)
        self.assertEqual(refused(self, BadPapers, enough, RULE, BAD_PAPERS, cards).number, 2)
        self.assertEqual(refused(self, BadPapers, enough, RULE, BAD_PAPERS, []).number, 2)
        refused(self, NoHead, enough, RULE, [], cards)


if __name__ == "__main__":
    unittest.main()
