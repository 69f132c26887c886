"""The least steps by which the rest of a row is written, and a paper that none cost less."""

from farbuilds.copies import longest_copies
from farbuilds.steps import COPY_COST, new_cost


def least(old, row, *, start=0):
    """Tell a tuple (cost, steps, paper) of the cheapest steps that write a row from its place start on."""
    costs, firsts = cheapest(old, row)
    return costs[start], steps_from(firsts, start), costs


def cheapest(old, row):
    """Tell two lists by places: what the rest of the row costs, and the first step of it with where it ends."""
    costs = [0] * (len(row) + 1)
    firsts = [None] * len(row)
    copies = longest_copies(old, row)
    for place in reversed(range(len(row))):
        costs[place], firsts[place] = cheapest_first(row, place, costs, copies[place])
    return costs, firsts


def cheapest_first(row, place, costs, copied):
    """Tell the cost from a place on, and the first step with where it ends, the costs behind it being known."""
    cost, end = min([(new_cost(to - place) + costs[to], to) for to in range(place + 1, len(costs))])
    # The longest copy is as good as any: steps cut short at their front still write what is left, and cost no more.
    copied_end = place + copied[2]
    if copied[2] > 0 and COPY_COST + costs[copied_end] < cost:
        return COPY_COST + costs[copied_end], (copied, copied_end)
    return cost, (("new", tuple(row[place:end])), end)


def steps_from(firsts, start):
    """Tell the steps from a place on, each the first one of where the one ahead ends."""
    steps = []
    place = start
    while place < len(firsts):
        step, place = firsts[place]
        steps.append(step)
    return tuple(steps)
