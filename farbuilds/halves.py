"""Rows of sums halved, again and again, and put together again: what logs and their lookers share.

The first half has as many as the greatest power of two below their count. A
way down is a list of truths, from the whole on: whether it goes on in the
second half.
"""

from farbuilds.sums import sum_of


def leaf(thing):
    """Tell what stands for a thing alone."""
    return "leaf", thing


def node(one, other):
    """Tell what stands for two halves, by their roots."""
    return "node", one, other


def half_of(count):
    """Tell how many of so many, two or more, are in the first half."""
    half = 1
    while 2 * half < count:
        half = 2 * half
    return half


def root_of(leaves):
    """Tell the root of things by the sums of what stands for each alone."""
    if not leaves:
        return sum_of(("none",))
    if len(leaves) == 1:
        return leaves[0]
    half = half_of(len(leaves))
    return sum_of(node(root_of(leaves[:half]), root_of(leaves[half:])))


def way_to_one(number, count):
    """Tell the way down to the number-th of so many."""
    way = []
    while count > 1:
        half = half_of(count)
        second = number >= half
        way.append(second)
        number, count = (number - half, count - half) if second else (number, half)
    return way


def way_to_few(few, count):
    """Tell the way down to where as many are left as are left of the first few."""
    way = []
    while few < count:
        half = half_of(count)
        second = few > half
        way.append(second)
        few, count = (few - half, count - half) if second else (few, half)
    return way


def half_gone_to(row, second):
    """Tell the half of a row in which a way goes on."""
    half = half_of(len(row))
    return row[half:] if second else row[:half]


def half_left(row, second):
    """Tell the half of a row that a way leaves aside."""
    return half_gone_to(row, not second)


def joined(root, beside, second):
    """Tell what stands for two halves: that with the root, the second one or not, and the one beside it."""
    return node(beside, root) if second else node(root, beside)
