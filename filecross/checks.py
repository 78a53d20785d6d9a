"""The checks of what is handed in. Callers keep the order: rules, papers, cabinets, the rest."""

from filecross.errors import BadCabinet, BadMarks, BadPapers, BadRule, NoHead
from filecross.rows import MARKS, REST, rule_heads

LETTERS = "abcdefghijklmnopqrstuvwxyz"
LONGEST_WORD = 6
MOST_ROWS = 12
MOST_HEADS = 6
MOST_PAPERS = 12


def is_small(text):
    """Tell whether the text is small letters, one at least."""
    return text != "" and all(letter in LETTERS for letter in text)


def is_word(text):
    """Tell whether the text is one to six small letters, as heads and names are."""
    return is_small(text) and len(text) <= LONGEST_WORD


def is_marks(text):
    """Tell whether the text is unlike marks, rising."""
    # Marks in their one right form are the only text that this gives back unchanged.
    return text == "".join([mark for mark in MARKS if mark in text])


def is_row(row):
    """Tell whether the row can be in a rule, whatever the other rows are."""
    head, needs, bars = row
    if not is_word(head) or head == REST:
        return False
    if not is_marks(needs) or not is_marks(bars):
        return False
    return not any(mark in bars for mark in needs)


def are_rising_names(names):
    """Tell whether these are names, each once, rising."""
    return all(is_word(name) for name in names) and list(names) == sorted(set(names))


def check_rule(rule):
    """Refuse a rule with the number of the first row that cannot be."""
    heads = set()
    for number, row in enumerate(rule):
        if number >= MOST_ROWS or not is_row(row):
            raise BadRule(number)
        heads.add(row[0])
        if len(heads) > MOST_HEADS:
            raise BadRule(number)


def check_papers(papers):
    """Refuse papers with the number of the first one that cannot be."""
    names = set()
    for number, (name, marks) in enumerate(papers):
        if number >= MOST_PAPERS or not is_word(name) or not is_marks(marks):
            raise BadPapers(number)
        if name in names:
            raise BadPapers(number)
        names.add(name)


def check_cabinet(rule, cabinet):
    """Refuse a cabinet with the number of the first drawer that cannot be, or is lacking."""
    heads = rule_heads(rule)
    for number, (head, names) in enumerate(cabinet):
        if number >= len(heads) or head != heads[number] or not are_rising_names(names):
            raise BadCabinet(number)
    if len(cabinet) < len(heads):
        raise BadCabinet(len(cabinet))


def check_marks(marks):
    """Refuse what are no marks."""
    if not is_marks(marks):
        raise BadMarks(f"no marks: {marks}")


def check_head(rule, head):
    """Refuse what is not a head of the rule."""
    if head not in rule_heads(rule):
        raise NoHead(f"no head of the rule: {head}")
