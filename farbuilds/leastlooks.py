"""A look at papers that no steps cost less than a number."""

from farbuilds.copies import longest_copies
from farbuilds.steps import COPY_COST, new_cost
from farbuilds.words import is_number


def bars_less(old, row, paper, number, *, start=0):
    """Tell of anything whether it is a paper that bars steps from start on that cost less than the number."""
    if not is_paper(paper, len(row) + 1):
        return False
    if paper[start] < number or paper[len(row)] > 0:
        return False
    copies = longest_copies(old, row)
    return all([bars_steps(paper, place, copies[place][2]) for place in range(start, len(row))])


def is_paper(thing, places):
    """Tell of anything whether it is a list of a whole number for each of so many places."""
    return isinstance(thing, list) and len(thing) == places and all([is_number(part) for part in thing])


def bars_steps(paper, place, copied):
    """Tell whether no step from a place on saves more than it costs; so many items can be copied there."""
    ends = list(range(place + 1, len(paper)))
    return all([paper[place] <= paper[end] + step_cost(end - place, copied) for end in ends])


def step_cost(many, copied):
    """Tell what the cheapest step costs that writes so many items where so many can be copied."""
    if many <= copied:
        return min(COPY_COST, new_cost(many))
    return new_cost(many)
