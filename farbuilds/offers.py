"""Letters that a house has for a machine, by the report heard last of it."""

from farbuilds.least import least
from farbuilds.marks import mark_of
from farbuilds.reports import charter_number, list_number, other_room, ran_tag
from farbuilds.sums import sum_of


def charter_letters(charters, heard):
    """Tell the letters of charters, by tuples (charter, marks), that a machine hasn't yet."""
    number = charter_number(heard)
    return [("charter", charter, marks) for charter, marks in charters if charter[0] > number]


def list_letters(lists, heard, moment):
    """Tell the letter of the last list, by tuples (list, marks), where a machine hasn't it yet and it isn't past."""
    number = list_number(heard)
    return [("list", told, marks) for told, marks in lists[-1:] if told[0] > number and told[1] >= moment]


def has_whole(heard, tag):
    """Tell whether the other room of a machine has all that a tag tells."""
    return other_room(heard) == (tag,) + tag[1:]


def items_letter(heard, tag, rows):
    """Tell the letter of the items, by rows of tags, that a machine's other room still needs."""
    runs = ran_tag(heard)
    at = begun_at(heard, tag, rows[tag])
    # Of what runs without being on the shelf no item is known.
    return "items", tag, runs, at, least(rows.get(runs, ()), rows[tag], start=at)[1]


def begun_at(heard, tag, row):
    """Tell how many items of a row a machine's other room has, from which on to go; 0 where they aren't its own."""
    held, many, total = other_room(heard)
    return many if held == tag and many < len(row) and total == sum_of(row[:many]) else 0


def permit_letter(permit, holders):
    """Tell the letter of a permit, marked by holders."""
    return "permit", permit, marks_of(holders, ("permit", permit))


def marks_of(holders, thing):
    """Tell the marks of holders under a thing, by rising names."""
    return tuple([(name, mark_of(key, thing)) for name, key in sorted(holders)])
