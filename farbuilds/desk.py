"""Desks, which keep a house, its machines and letters, and answer rows with texts."""

from farbuilds.builds import build_of
from farbuilds.errors import NoBuild, NoHolder, NoLetter, NoMachine, NoRow, NotYet
from farbuilds.house import House
from farbuilds.machine import Machine
from farbuilds.offers import marks_of
from farbuilds.sayings import NO_ONE, said
from farbuilds.texts import read

OK = "ok"
CUT = "cut"


def say_house(desk, values, text):
    """Begin all anew with a house of a charter, some of whose holders' keys it has."""
    span, names = values
    charter = read("charter", text)
    by_name = dict(charter[1])
    for name in names:
        if name not in by_name:
            raise NoHolder(name)
    desk.begin(House(charter, tuple([(name, by_name[name]) for name in names]), span=span))
    return OK


def say_build(desk, values, text):
    """Put a build on the shelf."""
    name, grade = values
    desk.house.add_build(name, read("build", text), grade=grade)
    return OK


def say_charter(desk, values, text):
    """Give the house a charter, marked by all holders of the last one and its own."""
    charter = read("charter", text)
    holders = desk.house.last_charter()[1] + charter[1]
    desk.house.new_charter(charter, marks_of(holders, ("charter", charter)))
    return OK


def say_list(desk, values, text):
    """Give the house a list, marked by all holders of the last charter."""
    told = read("list", text)
    desk.house.publish(told, marks_of(desk.house.last_charter()[1], ("list", told)))
    return OK


def say_roll(desk, values, text):
    """Begin a roll-out."""
    name, gates = values
    desk.house.roll(name, desk.moment, gates=gates)
    return OK


def say_stop(desk, values, text):
    """Stop the roll-out."""
    desk.house.stop(desk.moment)
    return OK


def say_at(desk, values, text):
    """Let it be a later moment."""
    desk.moment = values[0]
    return OK


def say_machine(desk, values, text):
    """Make a machine with a build of the shelf, and add it to the house."""
    name, key, ring, front, title, pairs = values
    house = desk.house
    if title not in house.tags:
        raise NoBuild(title)
    facts = dict(pairs)
    machine = Machine(name, key, facts, house.last_charter(), title, build_of(house.rows[house.tags[title]]))
    behind = None if front == NO_ONE else front
    house.add_machine(name, key, facts, ring, machine.report(desk.moment), behind=behind)
    desk.machines[name] = machine
    return OK


def say_letters(desk, values, text):
    """Put the letters for a machine behind the others."""
    name = values[0]
    told = desk.house.letters(name, desk.moment)
    numbers = [desk.put_letter(name, letter) for letter in told]
    return in_row([f"{number} {letter[0]}" for number, letter in zip(numbers, told)])


def say_take(desk, values, text):
    """Let a letter come to the machine that it was told for."""
    number, writes = values
    name, letter = desk.letter_of(number, False)
    word = desk.machines[name].take(letter, desk.moment, writes=how_many(writes))
    return CUT if word is None else word


def say_start(desk, values, text):
    """Start a machine."""
    name, writes = values
    tag = desk.machine_of(name).start(desk.moment, writes=how_many(writes))
    return CUT if tag is None else tag_text(tag)


def say_well(desk, values, text):
    """Find well what a machine has on trial."""
    name, writes = values
    told = desk.machine_of(name).well(writes=how_many(writes))
    if told is None:
        return CUT
    return "yes" if told else "no"


def say_off(desk, values, text):
    """Turn a machine off."""
    desk.machine_of(values[0]).off()
    return OK


def say_report(desk, values, text):
    """Put a machine's report behind the letters."""
    name = values[0]
    return str(desk.put_letter(name, desk.machine_of(name).report(desk.moment)))


def say_hear(desk, values, text):
    """Let a report come to the house."""
    name, letter = desk.letter_of(values[0], True)
    return desk.house.hear(letter, desk.moment)


def say_runs(desk, values, text):
    """Tell what a machine runs."""
    tag = desk.machine_of(values[0]).runs()
    return "off" if tag is None else tag_text(tag)


def say_can(desk, values, text):
    """Tell what a machine can run."""
    return in_row([tag_text(tag) for tag in desk.house.can_run(values[0], desk.moment)])


def say_ever(desk, values, text):
    """Tell what a machine can ever run."""
    return in_row([tag_text(tag) for tag in desk.house.can_ever(values[0], desk.moment)])


def say_sure(desk, values, text):
    """Tell of which machines it is sure what they run."""
    return in_row([f"{name} {tag_text(tag)}" for name, tag in desk.house.sure(desk.moment)])


def say_end(desk, values, text):
    """Tell the last end of a build's permits."""
    end = desk.house.last_end(values[0])
    return "none" if end is None else str(end)


def tag_text(tag):
    """Tell the text of a tag."""
    name, size, total = tag
    return f"{name} {size} {total}"


def in_row(texts):
    """Tell texts as one, or that there are none."""
    return ", ".join(texts) if texts else "none"


def how_many(writes):
    """Tell how many writes are done, by a tuple of that or of none; None is all."""
    return writes[0] if writes else None


ACTIONS = {
    "house": say_house,
    "build": say_build,
    "charter": say_charter,
    "list": say_list,
    "roll": say_roll,
    "stop": say_stop,
    "at": say_at,
    "machine": say_machine,
    "letters": say_letters,
    "take": say_take,
    "start": say_start,
    "well": say_well,
    "off": say_off,
    "report": say_report,
    "hear": say_hear,
    "runs": say_runs,
    "can": say_can,
    "ever": say_ever,
    "sure": say_sure,
    "end": say_end,
}


class Desk:
    """A desk; it has no house at first."""

    def __init__(self):
        self.begin(None)

    def begin(self, house):
        """Begin all anew with a house, or with none."""
        self.house = house
        self.machines = {}
        self.post = []
        self.moment = 0

    def say(self, row):
        """Do what a row says, of anything, and tell an answer."""
        parsed = said(row)
        if parsed is None:
            raise NoRow(row)
        word, values, text = parsed
        if word == "at" and values[0] < self.moment:
            raise NoRow(row)
        if word != "house" and self.house is None:
            raise NotYet()
        action = ACTIONS[word]
        return action(self, values, text)

    def put_letter(self, name, letter):
        """Put a letter to or from a machine behind the others, and tell its number."""
        self.post.append((name, letter))
        return len(self.post) - 1

    def letter_of(self, number, is_heard):
        """Tell the letter of a number with its machine's name: a report where it is to be heard, else another one."""
        if number >= len(self.post) or (self.post[number][1][0] == "report") != is_heard:
            raise NoLetter(number)
        return self.post[number]

    def machine_of(self, name):
        """Tell the machine of a name; NoMachine where there is none."""
        if name not in self.machines:
            raise NoMachine(name)
        return self.machines[name]
