"""Where a sheet that lies wrong is looked for, by the fewest slips."""

from itertools import combinations

from filecross.checks import check_cabinet, check_head, check_marks, check_rule
from filecross.rows import MARKS, main_head, named_marks, rule_heads


def slips(rule, marks, head):
    """Tell the fewest slips behind which the head is the main one, None if it never is."""
    check_rule(rule)
    check_marks(marks)
    check_head(rule, head)
    return fewest_slips(rule, marks).get(head)


def search(rule, cabinet, name, marks):
    """Tell the heads looked under in turn for the sheet, and the one where it lies or None."""
    check_rule(rule)
    check_cabinet(rule, cabinet)
    check_marks(marks)
    drawers = dict(cabinet)
    looked = []
    for head in looking_order(rule, marks):
        looked.append(head)
        if name in drawers[head]:
            return looked, head
    return looked, None


def looking_order(rule, marks):
    """Tell all heads of the rule in the order in which a sheet of these marks is looked for."""
    least = fewest_slips(rule, marks)
    ranked = sorted([(least[head], head) for head in least])
    never = [head for head in rule_heads(rule) if head not in least]
    return [head for (count, head) in ranked] + never


def fewest_slips(rule, marks):
    """Tell the fewest slips to each head that is the main one behind some slips."""
    least = {}
    named = named_marks(rule)
    for count in range(len(named) + 1):
        for slipped in combinations(named, count):
            # Counts rise, so what is kept first for a head is its fewest.
            least.setdefault(main_head(rule, after_slips(marks, slipped)), count)
    return least


def after_slips(marks, slipped):
    """Tell the marks behind slips of these marks: each is added, or dropped if it was there."""
    return "".join([mark for mark in MARKS if (mark in marks) != (mark in slipped)])
