"""A look at papers that a rule lets no facts, or that one rule is within another."""

from farbuilds.apart import split_rows, taken_apart, worths_left


def shows_none(rule, paper):
    """Tell of anything whether it is a paper that the rule lets no facts."""
    return is_paper_of(taken_apart([(rule, True)]), paper)


def shows_within(one, other, paper):
    """Tell of anything whether it is a paper that the other rule lets all facts that the one lets."""
    return is_paper_of(taken_apart([(one, True), (other, False)]), paper)


def is_paper_of(row, paper):
    """Tell of anything whether it is a paper of a row taken apart."""
    if not isinstance(paper, tuple) or len(paper) != 2:
        return False
    kind, told = paper
    if kind == "fact":
        return not worths_left(row, told)
    if kind != "split" or not isinstance(told, tuple):
        return False
    rows = split_rows(row)
    if rows is None or len(rows) != len(told):
        return False
    return all([is_paper_of(part, inner) for part, inner in zip(rows, told)])
