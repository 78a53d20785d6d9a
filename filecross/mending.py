"""What is amiss in a cabinet, the deeds that mend it, and the cabinet behind deeds."""

from filecross.checks import check_cabinet, check_head, check_papers, check_rule
from filecross.rows import main_head
from filecross.searching import looking_order

GONE = "gone"
ASTRAY = "astray"
TWICE = "twice"
STRANGE = "strange"
NOWHERE = ""


def amiss(rule, papers, cabinet):
    """Tell all that is amiss in the cabinet as tuples (name, word, head), rising."""
    check_rule(rule)
    check_papers(papers)
    check_cabinet(rule, cabinet)
    found = strange_sheets(papers, cabinet)
    for name, marks in papers:
        found.extend(amiss_of_paper(rule, cabinet, name, marks))
    return sorted(found)


def mended(rule, papers, cabinet):
    """Tell the fewest deeds behind which the cabinet is right, rising."""
    found = amiss(rule, papers, cabinet)
    mains = {name: main_head(rule, marks) for name, marks in papers}
    return sorted([deed_against(thing, mains) for thing in found])


def done(rule, cabinet, deeds):
    """Tell the cabinet behind the deeds, done in turn."""
    check_rule(rule)
    check_cabinet(rule, cabinet)
    check_deeds(rule, deeds)
    drawers = {head: list(names) for head, names in cabinet}
    for deed in deeds:
        do_deed(drawers, deed)
    return [(head, sorted(names)) for head, names in drawers.items()]


def strange_sheets(papers, cabinet):
    """Tell the sheets that are of none of the papers, as things amiss."""
    known = dict(papers)
    return [(name, STRANGE, head) for head, names in cabinet for name in names if name not in known]


def amiss_of_paper(rule, cabinet, name, marks):
    """Tell what is amiss with the sheets of one paper."""
    drawers = dict(cabinet)
    main = main_head(rule, marks)
    lying = [head for head in looking_order(rule, marks) if name in drawers[head]]
    if not lying:
        return [(name, GONE, main)]
    found = [(name, TWICE, head) for head in lying[1:]]
    # The main head alone takes no slips, so a sheet that lies there is the first one.
    if lying[0] != main:
        found.append((name, ASTRAY, lying[0]))
    return found


def deed_against(thing, mains):
    """Tell the deed that mends a thing amiss, by the main heads of the papers."""
    name, word, head = thing
    if word == GONE:
        return (name, NOWHERE, head)
    if word == ASTRAY:
        return (name, head, mains[name])
    return (name, head, NOWHERE)


def check_deeds(rule, deeds):
    """Refuse deeds from or to what is neither a head of the rule nor nowhere."""
    for name, start, goal in deeds:
        for place in (start, goal):
            if place != NOWHERE:
                check_head(rule, place)


def do_deed(drawers, deed):
    """Do the deed in the drawers; the names there may cease to rise."""
    name, start, goal = deed
    if start != NOWHERE:
        if name not in drawers[start]:
            return
        drawers[start].remove(name)
    # A drawer has a name once, however many sheets of it are laid there.
    if goal != NOWHERE and name not in drawers[goal]:
        drawers[goal].append(name)
