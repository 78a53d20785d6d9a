"""Whether two rules file all papers alike, and the least marks that part them."""

from itertools import combinations

from filecross.checks import check_rule
from filecross.rows import main_head, named_marks, rising_heads


def parting(one, other):
    """Tell the fewest marks that the rules file unlike, and what each tells of them, or None."""
    check_rule(one)
    check_rule(other)
    named = named_marks(one + other)
    for count in range(len(named) + 1):
        # Of rising marks, combinations come in the order of texts, so the first one is the one to tell.
        for some in combinations(named, count):
            marks = "".join(some)
            by_one, by_other = told_of(one, marks), told_of(other, marks)
            if by_one != by_other:
                return marks, by_one, by_other
    return None


def alike(one, other):
    """Tell whether the rules file each paper alike."""
    return parting(one, other) is None


def told_of(rule, marks):
    """Tell the main head and the heads that the rule gives the marks."""
    return main_head(rule, marks), rising_heads(rule, marks)
