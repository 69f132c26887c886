"""Facts that a rule lets, or a paper that it lets none; likewise of two rules, whether one is within the other."""

from farbuilds.apart import facts_in, split_rows, taken_apart, worths_left


def some(rule):
    """Tell ("some", facts) that a rule lets, or ("none", paper)."""
    facts, paper = looked_through(taken_apart([(rule, True)]))
    return ("some", facts) if paper is None else ("none", paper)


def within(one, other):
    """Tell ("within", paper), or ("parted", facts) that the one lets and the other doesn't."""
    facts, paper = looked_through(taken_apart([(one, True), (other, False)]))
    return ("parted", facts) if paper is None else ("within", paper)


def looked_through(row):
    """Tell of a row taken apart facts that fit all of it and None, or None and a paper that none do."""
    for fact in facts_in(row):
        if not worths_left(row, fact):
            return None, ("fact", fact)
    rows = split_rows(row)
    if rows is None:
        return fitting_facts(row), None
    papers = []
    for part in rows:
        facts, paper = looked_through(part)
        if paper is None:
            return facts, None
        papers.append(paper)
    return None, ("split", tuple(papers))


def fitting_facts(row):
    """Tell facts that fit a row of plain rules, of which each leaves something."""
    chosen = {fact: worths_left(row, fact)[0] for fact in facts_in(row)}
    return {fact: worth for fact, worth in chosen.items() if worth is not None}
