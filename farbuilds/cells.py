"""The cells of a machine, which outlive cuts, and the writes that set them.

Cells are a tuple (writes, marks, rooms): how many writes were begun ever, two
marks, each None or (turn, charter, list, boot), and two rooms, each (tag,
items). They never change: a write tells new ones. A write is a tuple ("mark",
charter, list, boot), ("tag", room, tag) or ("item", room, item).
"""

from farbuilds.sums import sum_of

MOST_TRIES = 2


def first_cells(charter, tag, row):
    """Tell the cells of a machine as it is made, with a charter and a row by its tag."""
    mark = (1, charter, None, (0, 0, None, 0, ()))
    return 0, (mark, None), ((tag, row), (None, ()))


def standing_place(cells):
    """Tell the place of the mark that stands."""
    one, other = cells[1]
    if one is None:
        return 1
    if other is None:
        return 0
    return 0 if one[0] > other[0] else 1


def standing(cells):
    """Tell the mark that stands."""
    return cells[1][standing_place(cells)]


def charter_write(cells, charter):
    """Tell the write of a mark with another charter."""
    turn, ahead, listing, boot = standing(cells)
    return "mark", charter, listing, boot


def list_write(cells, listing):
    """Tell the write of a mark with another list."""
    turn, charter, ahead, boot = standing(cells)
    return "mark", charter, listing, boot


def boot_write(cells, boot):
    """Tell the write of a mark with another boot."""
    turn, charter, listing, ahead = standing(cells)
    return "mark", charter, listing, boot


def do_write(cells, write):
    """Tell the cells behind a write that is done."""
    writes, marks, rooms = cells
    if write[0] == "mark":
        mark = (standing(cells)[0] + 1,) + write[1:]
        return writes + 1, replaced(marks, 1 - standing_place(cells), mark), rooms
    kind, room, worth = write
    tag, row = rooms[room]
    held = (worth, ()) if kind == "tag" else (tag, row + (worth,))
    return writes + 1, marks, replaced(rooms, room, held)


def tear_write(cells, write):
    """Tell the cells behind a write that is torn: begun, but not done."""
    writes, marks, rooms = cells
    if write[0] == "mark":
        return writes + 1, replaced(marks, 1 - standing_place(cells), None), rooms
    if write[0] == "tag":
        return writes + 1, marks, replaced(rooms, write[1], (None, ()))
    return writes + 1, marks, rooms


def replaced(pair, place, worth):
    """Tell a tuple of two with another one at a place."""
    return (worth, pair[1]) if place == 0 else (pair[0], worth)


def running_room(boot):
    """Tell which room runs by boot; where it isn't boot's own, what runs is on trial."""
    room, number, end, tries, failed = boot
    return room if end is None or tries == MOST_TRIES else 1 - room


def is_whole(tag, row):
    """Tell whether items are as many, and of the sum, as a tag tells."""
    return len(row) == tag[1] and sum_of(row) == tag[2]
