"""Cards that lead from head to head, and the fewest of them that are enough."""

from filecross.checks import check_head, check_papers, check_rule
from filecross.rows import main_head, rising_heads


def needed(rule, papers):
    """Tell all (head, main head) of a paper and a head of it that is not its main one, rising."""
    check_rule(rule)
    check_papers(papers)
    return sorted(set([need for name, marks in papers for need in needs_of_marks(rule, marks)]))


def come_to(cards, head):
    """Tell all heads that one comes to from the head by cards, itself too, rising."""
    reached = {head}
    waiting = [head]
    while waiting:
        here = waiting.pop()
        for start, goal in cards:
            if start == here and goal not in reached:
                reached.add(goal)
                waiting.append(goal)
    return sorted(reached)


def enough(rule, papers, cards):
    """Tell whether the cards lead from each head of a paper to its main head."""
    needs = needed(rule, papers)
    for start, goal in cards:
        check_head(rule, start)
        check_head(rule, goal)
    return all(main in come_to(cards, head) for head, main in needs)


def fewest(rule, papers):
    """Tell the fewest cards that are enough, rising."""
    needs = needed(rule, papers)
    cards = []
    for group in groups_of(needs):
        cards.extend(cards_of_group(needs, group))
    return sorted(cards)


def needs_of_marks(rule, marks):
    """Tell (head, main head) of each head of the marks that is not their main one."""
    main = main_head(rule, marks)
    return [(head, main) for head in rising_heads(rule, marks) if head != main]


def groups_of(needs):
    """Tell the groups of heads that needs bring together, one with another."""
    both_ways = needs + [(main, head) for head, main in needs]
    groups = []
    for head, main in needs:
        group = come_to(both_ways, head)
        if group not in groups:
            groups.append(group)
    return groups


def cards_of_group(needs, group):
    """Tell a chain of cards through the group, closed to a ring if needs go round in it."""
    # If no needs go round, a head has more heads behind it than any that it leads to:
    # in this order each need leads onward along the chain.
    ranked = sorted([(-len(come_to(needs, head)), head) for head in group])
    order = [head for (rank, head) in ranked]
    cards = list(zip(order, order[1:]))
    if go_round(needs, group):
        cards.append((order[-1], order[0]))
    return cards


def go_round(needs, group):
    """Tell whether some needs of the group lead back to where they began."""
    return any(head in come_to(needs, main) for head, main in needs if head in group)
