"""Charters, builds, letters and machines that the tests of machines share."""

from farbuilds.builds import row_of, tag_of
from farbuilds.machine import Machine, opened
from farbuilds.marks import mark_of

HOLDERS = (("ann", 5), ("bob", 7), ("cy", 11))
CHARTER = (3, HOLDERS, (2, 2, 2))
FACTS = {"os": "linux", "disk": 5}
BUILDS = {
    "app": (("conf", ("x", "y")), ("main", ())),
    "web": (("conf", ("x",)), ("main", ("z", "z", "z"))),
    "new": (("main", ()),),
    "old": (("bin", ("a", "b")),),
}
ROWS = {name: row_of(build) for name, build in BUILDS.items()}
TAGS = {name: tag_of(name, row) for name, row in ROWS.items()}
SMALL = {"app": (("f", ()),), "web": (("f", ("x",)),), "new": (("f", ()), ("g", ())), "old": (("f", ("x", "y")),)}
SMALL_ROWS = {name: row_of(build) for name, build in SMALL.items()}
SMALL_TAGS = {name: tag_of(name, row) for name, row in SMALL_ROWS.items()}
ANY = ("all",)
KEY = 9


def marks_by(holders, kind, thing):
    """The marks of holders under a thing of a kind."""
    return tuple((name, mark_of(key, (kind, thing))) for name, key in holders)


def charter_letter(number, holders=HOLDERS, needs=(2, 2, 2), by=HOLDERS):
    charter = (number, holders, needs)
    return ("charter", charter, marks_by(by, "charter", charter))


def listed(number, until, names, rule=ANY):
    """A list of builds, all by one rule."""
    return (number, until, tuple(TAGS[name] + (0, rule) for name in sorted(names)))


def list_letter(number, until=1000, names=tuple(BUILDS), rule=ANY, by=HOLDERS):
    told = listed(number, until, names, rule)
    return ("list", told, marks_by(by, "list", told))


def items_letter(name, base, at=0, steps=None, to=None):
    """Items of a build, new ones where no steps are told, to the end or to a place."""
    items = ROWS[name][at:to]
    if steps is None:
        steps = (("new", items),) if items else ()
    return ("items", TAGS[name], TAGS[base], at, steps)


def permit_letter(number, name, end=1000, machine="far", by=HOLDERS):
    permit = (number, machine, name, end)
    return ("permit", permit, marks_by(by, "permit", permit))


def made(name="far", seen=None, facts=None, charter=CHARTER, title="app"):
    """A machine as it is made."""
    return Machine(name, KEY, FACTS if facts is None else facts, charter, title, BUILDS[title], seen=seen)


def held(name, many=None):
    """A room with the first items of a build, all where it isn't told how many."""
    return (TAGS[name], ROWS[name][:many])


EMPTY = (None, ())


def cells_of(boot, rooms, listing=None, charter=CHARTER, writes=20, turn=7):
    return (writes, ((turn, charter, listing, boot), None), rooms)


def switched_on(cells, facts=FACTS):
    """A machine with these cells, on without a start, which could write."""
    machine = opened("far", KEY, facts, cells)
    machine.lit = True
    return machine


def standing_so(boot, rooms, listing=None, charter=CHARTER, facts=FACTS):
    """A machine, on, of which this boot and these rooms stand."""
    return switched_on(cells_of(boot, rooms, listing, charter), facts)


def trial(tries, end=1000, seen=None, number=1, more=()):
    """A machine, just made but for the letters that began a trial of web, of so many tries."""
    machine = made(seen=seen)
    for letter in (list_letter(1), items_letter("web", "app"), permit_letter(number, "web", end)) + tuple(more):
        machine.take(letter, 0)
    for time in range(2 - tries):
        machine.start(0)
    return machine
