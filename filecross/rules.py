"""The heads that a rule gives marks."""

from filecross.checks import check_marks, check_rule
from filecross.rows import main_head, rising_heads


def heads_of(rule, marks):
    """Tell the heads that the rule gives the marks, rising."""
    check_rule(rule)
    check_marks(marks)
    return rising_heads(rule, marks)


def main_of(rule, marks):
    """Tell the main head that the rule gives the marks."""
    check_rule(rule)
    check_marks(marks)
    return main_head(rule, marks)
