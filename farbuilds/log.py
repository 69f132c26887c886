"""Logs: rows of things, of which papers show what stands in them and how they began."""

from farbuilds.errors import NoPlace
from farbuilds.halves import half_gone_to, half_left, leaf, root_of, way_to_few, way_to_one
from farbuilds.sums import sum_of
from farbuilds.words import is_between


class Log:
    """A row of things that have sums, numbered from 0."""

    def __init__(self):
        self.kept = []
        self.leaves = []

    def __eq__(self, other):
        return isinstance(other, Log) and self.kept == other.kept

    def __len__(self):
        return len(self.kept)

    def add(self, thing):
        """Put a thing behind the others, and tell its number."""
        self.kept.append(thing)
        self.leaves.append(sum_of(leaf(thing)))
        return len(self.kept) - 1

    def things(self):
        """Tell all things."""
        return list(self.kept)

    def head(self, *, count=None):
        """Tell how many things there are and their root, of all or of the first ones."""
        leaves = self.first_leaves(count)
        return len(leaves), root_of(leaves)

    def paper(self, number, *, count=None):
        """Tell the paper of the number-th thing, within all or the first ones."""
        leaves = self.first_leaves(count)
        if not is_between(number, 0, len(leaves) - 1):
            raise NoPlace(number)
        return left_aside(leaves, way_to_one(number, len(leaves)))

    def begun(self, few, *, count=None):
        """Tell the paper of the beginning of few things, within all or the first ones."""
        leaves = self.first_leaves(count)
        if not is_between(few, 1, len(leaves)):
            raise NoPlace(few)
        way = way_to_few(few, len(leaves))
        if True not in way:
            return left_aside(leaves, way)
        end = leaves
        for second in way:
            end = half_gone_to(end, second)
        return [root_of(end)] + left_aside(leaves, way)

    def first_leaves(self, count):
        """Tell what stands for each of the first things alone; of all where count is None."""
        return list(self.leaves) if count is None else self.leaves[:count]

    def copy(self):
        """Tell another log with the same things."""
        other = Log()
        other.kept = list(self.kept)
        other.leaves = list(self.leaves)
        return other


def left_aside(leaves, way):
    """Tell the roots of the halves that a way down leaves aside, the last one first."""
    roots = []
    for second in way:
        roots.append(root_of(half_left(leaves, second)))
        leaves = half_gone_to(leaves, second)
    return roots[::-1]
