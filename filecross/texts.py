"""Rules as texts, and read back from them."""

from filecross.checks import check_rule, is_small
from filecross.errors import BadText

NO_MARKS = "-"
WORDS_IN_ROW = 3


def written(rule):
    """Tell the text of the rule, a row for each of its rows."""
    check_rule(rule)
    return "\n".join([written_row(row) for row in rule])


def read_rule(text):
    """Tell the rule that the text writes."""
    # An empty text has no rows, though it would be split into an empty one.
    rows = text.split("\n") if text else []
    rule = [read_row(number, row) for number, row in enumerate(rows)]
    check_rule(rule)
    return rule


def written_row(row):
    """Tell the three words of a row of a rule."""
    head, needs, bars = row
    return " ".join([head, needs or NO_MARKS, bars or NO_MARKS])


def read_row(number, row):
    """Tell the row of a rule that this row of a text writes, or refuse it by its number."""
    words = row.split(" ")
    if len(words) != WORDS_IN_ROW or not is_small(words[0]):
        raise BadText(number)
    if not is_marks_word(words[1]) or not is_marks_word(words[2]):
        raise BadText(number)
    return words[0], read_marks(words[1]), read_marks(words[2])


def is_marks_word(word):
    """Tell whether the word can stand for marks in a text, be they marks or not."""
    return word == NO_MARKS or is_small(word)


def read_marks(word):
    """Tell the marks for which the word stands."""
    return "" if word == NO_MARKS else word
