"""What is known of a machine that told a report, by the letters that were given to it since ever.

Given is a list of tuples (letter, moment): letters as a machine takes them,
each with the moment from which on it was given.
"""

from farbuilds.builds import is_tag
from farbuilds.errors import NoWay
from farbuilds.ways import Search
from farbuilds.words import LAST_MOMENT


def told_cells(report, charters, lists, rows):
    """Tell the cells of a machine that told a report, but for what no deed goes by.

    Charters and lists are dicts by their numbers, rows a dict by their tags; a
    room has the first items of its tag's row, and none where the tag is strange.
    A strange charter is one without holders, which lets nothing.
    """
    kind, body, mark = report
    name, writes, moment, charter, listing, boot, rooms = body
    first = (1, charters.get(charter, (charter, (), (1, 1, 1))), lists.get(listing), boot)
    held = tuple([(tag, rows.get(tag, ())[:many]) for tag, many, total in rooms])
    return writes, (first, None), held


def searched(name, facts, cells, since, given, last):
    """Tell a search through what a machine can run to a last moment, on since another one with these cells."""
    search = Search(name, facts, cells, given, last)
    search.go_through(cells, since)
    return search


def can_run(name, facts, cells, since, given, moment):
    """Tell the rising list of the tags that a machine can run at a moment."""
    return sorted(searched(name, facts, cells, since, given, moment).found)


def can_ever(name, facts, cells, since, given):
    """Tell the rising list of the tags that a machine can ever run, if no more letters are given to it."""
    return can_run(name, facts, cells, since, given, LAST_MOMENT)


def way_to(name, facts, cells, since, given, tag, moment):
    """Tell a history to a moment behind which a machine runs a tag; NoWay where there is none, of anything."""
    search = searched(name, facts, cells, since, given, moment)
    # By form first, as a truth in a tag would be taken for a number.
    if not is_tag(tag) or tag not in search.found:
        raise NoWay(tag)
    return search.history(tag)
