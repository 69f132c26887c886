"""Reports of machines: how one is made, what is one by form, and what it tells."""

from farbuilds.builds import is_tag
from farbuilds.cells import MOST_TRIES, running_room, standing
from farbuilds.charters import MOST_NUMBER, MOST_PERMITS
from farbuilds.marks import mark_of
from farbuilds.sums import MODULUS, sum_of
from farbuilds.words import MOST_ITEMS, are_rising, is_between, is_moment, is_number, is_word


def report_of(name, key, cells, moment):
    """Tell the report of a machine by its cells."""
    writes, marks, rooms = cells
    turn, charter, listing, boot = standing(cells)
    told = tuple([(tag, len(row), sum_of(row)) for tag, row in rooms])
    body = (name, writes, moment, charter[0], 0 if listing is None else listing[0], boot, told)
    return "report", body, mark_of(key, body)


def is_report(thing):
    """Tell of anything whether it is a report by form."""
    if not isinstance(thing, tuple) or len(thing) != 3:
        return False
    kind, body, mark = thing
    return kind == "report" and is_body(body) and is_between(mark, 0, MODULUS - 1)


def is_body(thing):
    """Tell of anything whether it is the body of a report."""
    if not isinstance(thing, tuple) or len(thing) != 7:
        return False
    name, writes, moment, charter, listing, boot, rooms = thing
    if not is_word(name) or not is_number(writes) or writes < 0 or not is_moment(moment):
        return False
    if not is_between(charter, 1, MOST_NUMBER) or not is_between(listing, 0, MOST_NUMBER):
        return False
    return is_boot(boot) and isinstance(rooms, tuple) and len(rooms) == 2 and all([is_room(part) for part in rooms])


def is_boot(thing):
    """Tell of anything whether it is a boot, each part looked at alone."""
    if not isinstance(thing, tuple) or len(thing) != 5:
        return False
    room, number, end, tries, failed = thing
    if not is_between(room, 0, 1) or not is_between(number, 0, MOST_PERMITS) or not is_between(tries, 0, MOST_TRIES):
        return False
    return (end is None or is_moment(end)) and are_tags(failed)


def are_tags(thing):
    """Tell of anything whether it is a tuple of tags, rising, each once."""
    return isinstance(thing, tuple) and all([is_tag(part) for part in thing]) and are_rising(thing)


def is_room(thing):
    """Tell of anything whether it is what a report tells of a room."""
    if not isinstance(thing, tuple) or len(thing) != 3:
        return False
    tag, many, total = thing
    return (tag is None or is_tag(tag)) and is_between(many, 0, MOST_ITEMS) and is_between(total, 0, MODULUS - 1)


def is_marked(report, key):
    """Tell whether a report is marked by this key."""
    kind, body, mark = report
    return mark == mark_of(key, body)


def ran_tag(report):
    """Tell the tag that ran, by a report; None where that room had none."""
    kind, body, mark = report
    boot, rooms = body[5:]
    return rooms[running_room(boot)][0]


def boot_of(report):
    """Tell the boot of which a report tells."""
    return report[1][5]


def well_tag(report):
    """Tell the tag of what ran last well, by a report; None where something is on trial."""
    room, number, end, tries, failed = boot_of(report)
    return report[1][6][room][0] if end is None else None


def failed_tags(report):
    """Tell the tags of what failed, by a report."""
    return boot_of(report)[4]


def other_room(report):
    """Tell, by a report, (tag, how many items, their sum) of the room beside that which ran last well."""
    return report[1][6][1 - boot_of(report)[0]]


def charter_number(report):
    """Tell the number of the charter of which a report tells."""
    return report[1][3]


def list_number(report):
    """Tell the number of the list of which a report tells, 0 of none."""
    return report[1][4]


def moment_of(report):
    """Tell the moment at which a report was told."""
    return report[1][2]
