"""Charters, lists and permits: what is one, and which a charter lets by marks."""

from farbuilds.builds import is_tag
from farbuilds.marks import counted
from farbuilds.rules import is_rule
from farbuilds.sums import MODULUS
from farbuilds.words import are_rising, is_between, is_moment, is_word

MOST_HOLDERS = 6
MOST_ENTRIES = 6
MOST_NUMBER = 999
MOST_PERMITS = 99999
MOST_GRADE = 99
# The places, among a charter's needs, of how many must mark what.
FOR_CHARTER = 0
FOR_LIST = 1
FOR_PERMIT = 2


def is_charter(thing):
    """Tell of anything whether it is a charter."""
    if not isinstance(thing, tuple) or len(thing) != 3:
        return False
    number, holders, needs = thing
    if not is_between(number, 1, MOST_NUMBER) or not are_holders(holders):
        return False
    if not isinstance(needs, tuple) or len(needs) != 3:
        return False
    return all([is_between(need, 1, len(holders)) for need in needs])


def are_holders(thing):
    """Tell of anything whether it is a charter's holders."""
    if not isinstance(thing, tuple) or not 1 <= len(thing) <= MOST_HOLDERS:
        return False
    return all([is_holder(part) for part in thing]) and are_rising([name for name, key in thing])


def is_holder(thing):
    """Tell of anything whether it is a holder."""
    return isinstance(thing, tuple) and len(thing) == 2 and is_word(thing[0]) and is_between(thing[1], 1, MODULUS - 1)


def is_list(thing):
    """Tell of anything whether it is a list."""
    if not isinstance(thing, tuple) or len(thing) != 3:
        return False
    number, until, entries = thing
    if not is_between(number, 1, MOST_NUMBER) or not is_moment(until):
        return False
    if not isinstance(entries, tuple) or len(entries) > MOST_ENTRIES:
        return False
    return all([is_entry(part) for part in entries]) and are_rising([entry[0] for entry in entries])


def is_entry(thing):
    """Tell of anything whether it is an entry of a list."""
    if not isinstance(thing, tuple) or len(thing) != 5:
        return False
    return is_tag(thing[:3]) and is_between(thing[3], 0, MOST_GRADE) and is_rule(thing[4])


def is_permit(thing):
    """Tell of anything whether it is a permit."""
    if not isinstance(thing, tuple) or len(thing) != 4:
        return False
    number, machine, name, end = thing
    return is_between(number, 1, MOST_PERMITS) and is_word(machine) and is_word(name) and is_moment(end)


def lets_charter(charter, other, marks):
    """Tell whether a charter lets another one by marks."""
    if other[0] != charter[0] + 1:
        return False
    thing = ("charter", other)
    return are_enough(charter, FOR_CHARTER, thing, marks) and are_enough(other, FOR_CHARTER, thing, marks)


def lets_list(charter, told, marks):
    """Tell whether a charter lets a list by marks."""
    return are_enough(charter, FOR_LIST, ("list", told), marks)


def lets_permit(charter, permit, marks):
    """Tell whether a charter lets a permit by marks."""
    return are_enough(charter, FOR_PERMIT, ("permit", permit), marks)


def are_enough(charter, need, thing, marks):
    """Tell whether as many holders of a charter marked a thing as it needs."""
    number, holders, needs = charter
    return len(counted(charter, thing, marks)) >= needs[need]


def first_unlet(charter, row):
    """Tell the place of the first of tuples (charter, marks) that isn't let by the one ahead; None where all are."""
    for at, (other, marks) in enumerate(row):
        if not lets_charter(charter, other, marks):
            return at
        charter = other
    return None
