"""Houses and machines of them that the tests of houses share."""

from farbuilds.house import House
from farbuilds.machine import Machine
from tests.makers import ANY, BUILDS, CHARTER, FACTS, HOLDERS, KEY, TAGS, marks_by

GRADES = {"app": 1, "web": 2, "new": 3, "old": 0}


def shelved(names=tuple(BUILDS), holders=HOLDERS, charter=CHARTER, grades=None, **named):
    """A house with builds on its shelf, and nothing else."""
    house = House(charter, holders, **named)
    for name in names:
        house.add_build(name, BUILDS[name], grade=(grades or GRADES)[name])
    return house


def graded(number, until=1000, names=tuple(BUILDS), rule=ANY, grades=None):
    """A list of builds by their grades, all by one rule."""
    return (number, until, tuple(TAGS[name] + ((grades or GRADES)[name], rule) for name in sorted(names)))


def publish(house, number=1, until=1000, names=tuple(BUILDS), rule=ANY, by=HOLDERS, grades=None):
    """Publish a list, marked by holders; the list is told."""
    told = graded(number, until, names, rule, grades)
    house.publish(told, marks_by(by, "list", told))
    return told


def new_charter(house, number, holders=HOLDERS, needs=(2, 2, 2), by=None):
    """Give a house a charter, marked by the holders of the last one and its own; the charter is told."""
    charter = (number, holders, needs)
    by = house.last_charter()[1] + holders if by is None else by
    house.new_charter(charter, marks_by(by, "charter", charter))
    return charter


def join(house, name="far", title="app", ring=0, behind=None, facts=FACTS, key=KEY, charter=CHARTER, moment=0):
    """A machine as it is made, added to a house."""
    machine = Machine(name, key, facts, charter, title, BUILDS[title])
    house.add_machine(name, key, facts, ring, machine.report(moment), behind=behind)
    return machine


def rolled(name="web", gates=(), moment=0, **named):
    """A house with all builds listed, a roll-out begun."""
    house = shelved(**named)
    publish(house)
    house.roll(name, moment, gates=gates)
    return house


def take_all(machine, letters, moment):
    """What a machine tells of each letter."""
    return [machine.take(letter, moment) for letter in letters]


def round_of(house, machine, moment, well=True):
    """Letters, brought and taken, a start, a finding well, a report heard; the letters are told."""
    letters = house.letters(machine.name, moment)
    take_all(machine, letters, moment)
    machine.start(moment)
    if well:
        machine.well()
    house.hear(machine.report(moment), moment)
    return letters


def bring(house, machine, moment):
    """Rounds till no more letters are told, at most twelve."""
    for time in range(12):
        if not round_of(house, machine, moment):
            return


def stands(house, moment=50):
    """All that a house tells of how it stands, asked of a copy: the asking of letters is a deed."""
    other = house.copy()
    names = sorted(other.fars)
    return (
        [other.is_open(ring, moment) for ring in range(4)], [other.is_wanted(name, moment) for name in names],
        [other.can_run(name, moment) for name in names], other.sure(moment), [other.last_end(name) for name in BUILDS],
        other.log().things(), [other.letters(name, moment) for name in names],
    )
