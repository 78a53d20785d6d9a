"""Where papers are filed, and by which of their heads one of them is found alone."""

from itertools import combinations

from filecross.checks import check_papers, check_rule
from filecross.errors import NoPaper, NotFound
from filecross.rows import main_head, rising_heads, rule_heads


def right(rule, papers):
    """Tell the cabinet in which each sheet lies under its paper's main head alone."""
    check_rule(rule)
    check_papers(papers)
    drawers = {head: [] for head in rule_heads(rule)}
    for name, marks in sorted(papers):
        drawers[main_head(rule, marks)].append(name)
    return list(drawers.items())


def found_by(rule, papers, name):
    """Tell the fewest heads of the named paper that no other paper has together."""
    check_rule(rule)
    check_papers(papers)
    marks_by_name = dict(papers)
    if name not in marks_by_name:
        raise NoPaper(f"no paper is called {name}")
    heads = rising_heads(rule, marks_by_name[name])
    others = {other: rising_heads(rule, marks) for other, marks in papers if other != name}
    hiding = [other for other in others if has_all(others[other], heads)]
    if hiding:
        raise NotFound(min(hiding))
    return fewest_alone(heads, list(others.values()))


def fewest_alone(heads, others):
    """Tell the fewest of the heads that none of the others has all of, the first of as few."""
    for count in range(len(heads)):
        # Of rising heads, combinations come as lists ascend, so the first one is the one to tell.
        for some in combinations(heads, count):
            if not any(has_all(other, some) for other in others):
                return list(some)
    return list(heads)


def has_all(heads, some):
    """Tell whether all of some heads are among the heads."""
    return all(head in heads for head in some)
