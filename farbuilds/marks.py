"""Marks of holders under things."""

from farbuilds.sums import MODULUS, sum_of
from farbuilds.words import is_number


def mark_of(key, thing):
    """Tell the mark of a key under a thing."""
    return key * (sum_of(thing) + key) % MODULUS


def counted(charter, thing, marks):
    """Tell the names of a charter's holders whose marks under a thing are among marks, which may be anything."""
    if not isinstance(marks, tuple):
        return []
    pairs = [part for part in marks if is_pair(part)]
    number, holders, needs = charter
    return [name for name, key in holders if (name, mark_of(key, thing)) in pairs]


def is_pair(thing):
    """Tell of anything whether it is a tuple of something and a whole number."""
    return isinstance(thing, tuple) and len(thing) == 2 and is_number(thing[1])
