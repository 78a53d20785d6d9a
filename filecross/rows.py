"""What the rows of a rule tell; the rule and the marks are checked before."""

MARKS = "abcdefgh"
REST = "rest"


def holds(row, marks):
    """Tell whether the row holds of the marks."""
    _, needs, bars = row
    return all(mark in marks for mark in needs) and not any(mark in marks for mark in bars)


def heads_in_turn(rule, marks):
    """Tell the heads of the rows that hold, as the rows stand, or `rest` alone."""
    return [row[0] for row in rule if holds(row, marks)] or [REST]


def rising_heads(rule, marks):
    """Tell the heads that the rule gives the marks, rising, each once."""
    return sorted(set(heads_in_turn(rule, marks)))


def main_head(rule, marks):
    """Tell the main head that the rule gives the marks."""
    return heads_in_turn(rule, marks)[0]


def rule_heads(rule):
    """Tell all heads of the rule, rising, each once."""
    return sorted(set([row[0] for row in rule] + [REST]))


def named_marks(rule):
    """Tell the marks that some row of the rule needs or bars, rising."""
    named = "".join([needs + bars for (head, needs, bars) in rule])
    return [mark for mark in MARKS if mark in named]
