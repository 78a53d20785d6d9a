"""What several tests hand in, and the small helpers that they share."""

from itertools import combinations
from random import Random

from filecross import errors

MARKS = "abcdefgh"
ALL_MARKS = ["".join(some) for count in range(9) for some in combinations(MARKS, count)]

RULE = [
    ("tax", "a", "b"),
    ("home", "ab", ""),
    ("car", "c", ""),
    ("tax", "d", "c"),
]
PAPERS = [("bill", "a"), ("lease", "abc"), ("note", ""), ("pass", "bc")]

NO_MARKS = ["ba", "aa", "aba", "i", "abi", "A", " ", "a ", "a,b", "ah ", "hgfedcba", "\u00e4"]
NO_WORDS = ["", "abcdefg", "A", "aB", "a1", "a b", "a-", " a", "\u00e4", "\u0430"]


def letters(count):
    """Tell as many heads or names of one letter, from a on."""
    return [chr(ord("a") + k) for k in range(count)]


def many_rows(count):
    """Tell a rule of as many rows, all of one head."""
    return [("tax", "a", "")] * count


def many_papers(count):
    """Tell as many papers without marks."""
    return [(name, "") for name in letters(count)]


def heads_in(rule):
    """Tell all heads of the rule, rising."""
    return sorted({head for head, needs, bars in rule} | {"rest"})


def drawers(rule, lying):
    """Tell the cabinet in which these names lie under these heads."""
    return [(head, sorted(lying.get(head, []))) for head in heads_in(rule)]


def random_rule(chance, most=7):
    """Tell a rule by this chance; few marks, so that its rows meet."""
    rows = []
    for _ in range(chance.randrange(most)):
        places = [chance.choice("nnbb...") for _ in MARKS[:5]]
        needs = "".join(mark for mark, place in zip(MARKS, places) if place == "n")
        bars = "".join(mark for mark, place in zip(MARKS, places) if place == "b")
        rows.append((chance.choice(["tax", "ta", "taxi", "zoo", "a"]), needs, bars))
    return rows


def random_rules(count, seed):
    """Tell rules by chance, the same ones each time."""
    chance = Random(seed)
    return [random_rule(chance) for _ in range(count)]


def refused(case, kind, call, *handed):
    """Check that the call is refused by exactly this kind, and tell the refusal."""
    with case.assertRaises(errors.FileError) as caught:
        call(*handed)
    case.assertIs(caught.exception.__class__, kind)
    return caught.exception
