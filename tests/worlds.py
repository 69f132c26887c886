"""Worlds: a house, the plain one beside it, machines, and letters that are lost, late, twice, cut; shared by tests."""

from farbuilds.builds import row_of, tag_of
from farbuilds.house import House
from farbuilds.machine import Machine
from tests.helpers import shown
from tests.makers import ANY, HOLDERS, marks_by
from tests.plain_house import PlainHouse

NAMES = ("ma", "mb", "mc", "md", "me")
TITLES = ("one", "six", "ten", "two")


class World:
    """A house, the plain one beside it, machines, and the letters that are under way."""

    # Whether builds of unlike names may be the same.
    MAY_BE_ALIKE = True

    def __init__(self, test, draw):
        self.test = test
        self.draw = draw
        self.moment = 0
        self.stopped = {}
        self.under_way = []
        self.reports = []
        self.told = {}
        self.make_house()
        self.machines = {}
        for name in NAMES[:draw.choice((1, 2, 3, 4, 5))]:
            self.join(name)
        self.roll()

    def make_house(self):
        draw = self.draw
        charter = (1, HOLDERS, (2, 2, draw.choice((1, 2))))
        span = draw.choice((3, 8, 25))
        self.house, self.plain = House(charter, HOLDERS, span=span), PlainHouse(charter, HOLDERS, span)
        for title in TITLES:
            build = self.drawn_build()
            while not self.MAY_BE_ALIKE and build in [other for other, grade in self.plain.builds.values()]:
                build = self.drawn_build()
            grade = draw.choice((1, 2, 3))
            self.house.add_build(title, build, grade=grade)
            self.plain.builds[title] = (build, grade)
        self.publish()

    def drawn_build(self):
        draw = self.draw
        return tuple(
            (name, tuple(draw.choice(("x", "y", "z")) for nth in range(draw.randrange(7)))) for name in ("a", "b")[:draw.choice((1, 2))]
        )

    def tag(self, title):
        return tag_of(title, row_of(self.plain.builds[title][0]))

    def grade(self, tag):
        return self.plain.builds[tag[0]][1]

    def join(self, name):
        draw = self.draw
        front = draw.choice((None, None) + tuple(self.machines))
        high = 99 if front is None else min(self.plain.grades(front))
        titles = [title for title in TITLES if self.plain.builds[title][1] <= high]
        if not titles:
            front, titles = None, TITLES
        facts = {"disk": draw.randrange(4)}
        title, ring, key = draw.choice(titles), draw.choice((0, 0, 1, 2, 3)), draw.randrange(1, 997)
        machine = Machine(name, key, facts, self.plain.charters[0][0], title, self.plain.builds[title][0])
        report = machine.report(self.moment)
        self.house.add_machine(name, key, facts, ring, report, behind=front)
        self.plain.add_machine(machine, facts, ring, front, report)
        self.machines[name] = machine

    def publish(self, until=None, titles=TITLES, rule=None):
        number = self.plain.lists[-1][0][0] + 1 if self.plain.lists else 1
        rule = rule or self.draw.choice((ANY, ANY, ("least", "disk", 1)))
        until = self.moment + self.draw.choice((5, 60, 500)) if until is None else until
        told = (number, until, tuple(self.tag(title) + (self.plain.builds[title][1], rule) for title in sorted(titles)))
        marks = marks_by(self.plain.charters[-1][0][1], "list", told)
        self.house.publish(told, marks)
        self.plain.lists.append((told, marks))
        self.plain.logged.append(("list", told, marks))

    def new_charter(self):
        number, holders, needs = self.plain.charters[-1][0]
        others = tuple((name, key if self.draw.random() < 0.9 else key + 1) for name, key in holders)
        charter = (number + 1, others, needs)
        marks = marks_by(holders + others, "charter", charter)
        self.house.new_charter(charter, marks)
        self.plain.charters.append((charter, marks))
        self.plain.logged.append(("charter", charter, marks))

    def roll(self, title=None, gates=None):
        title = title or self.draw.choice([entry[0] for entry in self.plain.lists[-1][0][2]])
        if gates is None:
            many = self.draw.choice((0, 0, 1, 2, 3))
            gates = tuple((self.draw.choice((0, 1, 1, 2)), self.draw.choice((0, 3)), self.draw.choice((0, 5, 5))) for nth in range(many))
        self.house.roll(title, self.moment, gates=gates)
        self.plain.rolled = (title, gates, self.moment)
        self.plain.logged.append(("roll", title, gates, self.moment))
        self.stopped.pop(title, None)

    def stop(self):
        if self.plain.rolled is not None:
            title = self.plain.rolled[0]
            self.house.stop(self.moment)
            self.plain.rolled = None
            self.plain.logged.append(("stop", self.moment))
            self.stopped[title] = self.house.last_end(title)

    def letters(self, name):
        """Letters asked for, looked at, and told."""
        told = self.house.letters(name, self.moment)
        self.test.assertEqual(told, self.plain.letters(name, self.moment))
        return told

    def send(self, name):
        for letter in self.letters(name):
            self.told[letter[0]] = self.told.get(letter[0], 0) + 1
            for time in range(self.draw.choice((0, 1, 1, 1, 2))):
                self.under_way.append((name, letter))

    def bring(self):
        """Let one of the letters under way come, at times one that came already, cut or not."""
        if self.under_way:
            at = self.draw.choice((0, self.draw.randrange(len(self.under_way))))
            name, letter = self.under_way[at] if self.draw.random() < 0.2 else self.under_way.pop(at)
            if not self.machines[name].is_on():
                self.start(name)
            else:
                self.take(name, letter, writes=self.draw.choice((None,) * 8 + (0, 1, 3)), torn=self.draw.random() < 0.5)

    def take(self, name, letter, **cut):
        return self.machines[name].take(letter, self.moment, **cut)

    def well(self, name, **cut):
        return self.machines[name].well(**cut)

    def start(self, name, writes=None, torn=False):
        machine = self.machines[name]
        tag = machine.start(self.moment, writes=writes, torn=torn)
        if tag is None or tag[0] not in self.stopped or machine.boot()[2] is None:
            return tag
        # It is started though it isn't the one that ran last well.
        if machine.cells()[2][machine.boot()[0]][0] != tag:
            self.test.assertIsNotNone(self.stopped[tag[0]])
            self.test.assertLessEqual(self.moment, self.stopped[tag[0]])
        return tag

    def hear(self, at):
        report, machine = self.reports.pop(at)
        self.test.assertEqual(self.house.hear(report, self.moment), self.plain.hear(report, self.moment, machine))

    def look(self):
        """What has to hold at any time."""
        for name, machine in self.machines.items():
            front = self.plain.far[name]["behind"]
            if machine.is_on() and front is not None and self.machines[front].is_on():
                self.test.assertLessEqual(self.grade(machine.runs()), self.grade(self.machines[front].runs()))

    def look_closely(self):
        for ring in range(4):
            self.test.assertEqual(self.house.is_open(ring, self.moment), self.plain.is_open(ring, self.moment))
        for title in TITLES:
            self.test.assertEqual(self.house.last_end(title), self.plain.last_end(title))
        self.test.assertEqual(self.house.log().things(), self.plain.logged)
        sure = []
        for name, machine in sorted(self.machines.items()):
            self.test.assertEqual(self.house.is_wanted(name, self.moment), self.plain.is_wanted(name, self.moment))
            tags = self.house.can_run(name, self.moment)
            if machine.is_on():
                self.test.assertIn(machine.runs(), tags)
            if len(tags) == 1:
                sure.append((name, tags[0]))
        self.test.assertEqual(self.house.sure(self.moment), sure)

    def go_on_with_a_copy(self):
        """A copy takes the house's place; what is done to the house then doesn't reach it."""
        other = self.house.copy()
        before = shown(other)
        for name in self.machines:
            self.house.letters(name, self.moment)
        if self.plain.rolled is not None:
            self.house.stop(self.moment)
        self.test.assertEqual(shown(other), before)
        self.house = other

    def deed(self):
        draw = self.draw
        self.moment += draw.choice((0, 0, 0, 1, 2))
        name = draw.choice(list(self.machines))
        machine = self.machines[name]
        cut = {"writes": draw.choice((None, None, None, 0)), "torn": draw.random() < 0.5}
        kind = draw.choice(("send",) * 6 + ("bring",) * 14 + ("start",) * 3 + ("well",) * 3 + ("report",) * 6 + ("hear",) * 6 + ("off", "deed"))
        if kind == "send":
            self.send(name)
        elif kind == "bring":
            self.bring()
        elif kind == "start":
            self.start(name, **cut)
        elif kind == "well" and machine.is_on():
            self.well(name, **cut)
        elif kind == "report" and machine.is_on():
            self.reports.append((machine.report(self.moment), machine.copy()))
        elif kind == "hear" and self.reports:
            self.hear(draw.choice((0, len(self.reports) - 1, draw.randrange(len(self.reports)))))
        elif kind == "off":
            machine.off()
        elif kind == "deed":
            draw.choice((self.roll, self.roll, self.stop, self.publish, self.new_charter, self.go_on_with_a_copy))()
        self.look()

    def settle(self):
        """All permits over, nothing on trial, all heard of."""
        ends = [self.house.last_end(title) or 0 for title in TITLES]
        self.moment = max(ends + [self.moment]) + 1
        for name, machine in self.machines.items():
            self.start(name)
            self.well(name)
            self.look()
            self.reports.append((machine.report(self.moment), machine.copy()))
            self.hear(len(self.reports) - 1)

    def round_of(self):
        """Each machine is brought its letters, starts, finds well, and is heard of."""
        self.moment += 5
        for name, machine in self.machines.items():
            for letter in self.letters(name):
                self.test.assertEqual(self.take(name, letter), "taken", letter)
            self.start(name)
            self.well(name)
            self.look()
            self.reports.append((machine.report(self.moment), machine.copy()))
            self.hear(len(self.reports) - 1)

    def who_can_come(self, title):
        """The names of those that come, by the gates, rules and those about them; those that have it are among them."""
        tag, gates = self.tag(title), self.plain.rolled[1]
        grade = self.grade(tag)
        rule = next(entry[4] for entry in self.plain.lists[-1][0][2] if entry[0] == title)
        come = {name for name, machine in self.machines.items() if machine.runs() == tag}
        failed = {name for name, machine in self.machines.items() if tag in machine.boot()[4]}
        disks = {name: self.plain.far[name]["facts"]["disk"] for name in self.machines}
        may = {name for name in self.machines if name not in failed and (rule == ANY or disks[name] >= 1)}

        def can(name):
            ring, front = self.plain.far[name]["ring"], self.plain.far[name]["behind"]
            if 0 < ring <= len(gates):
                need, wait, most = gates[ring - 1]
                lesser = {other for other in self.machines if self.plain.far[other]["ring"] < ring}
                if len(lesser & come) < need or len(lesser & failed) > most:
                    return False
            if front is not None and front not in come and self.grade(self.machines[front].runs()) < grade:
                return False
            backs = [other for other in self.machines if self.plain.far[other]["behind"] == name]
            return all(other in come or self.grade(self.machines[other].runs()) <= grade for other in backs)

        while True:
            more = {name for name in may - come if can(name)}
            if not more:
                return come
            come |= more

    def all_come(self):
        """A roll-out brought to its end; how many run its build, and how many can't."""
        self.settle()
        if not set(HOLDERS) & set(self.plain.charters[-1][0][1]) or self.plain.charters[-1][0][2][2] > 1:
            # The house's holders have to be enough for permits.
            number = self.plain.charters[-1][0][0] + 1
            charter = (number, HOLDERS, (2, 2, 1))
            marks = marks_by(self.plain.charters[-1][0][1] + HOLDERS, "charter", charter)
            self.house.new_charter(charter, marks)
            self.plain.charters.append((charter, marks))
            self.plain.logged.append(("charter", charter, marks))
        self.publish(until=10 ** 9)
        self.roll()
        title = self.plain.rolled[0]
        come = self.who_can_come(title)
        for time in range(3 * len(self.machines) + 4):
            self.round_of()
        self.look_closely()
        row = row_of(self.plain.builds[title][0])
        for name, machine in self.machines.items():
            self.test.assertEqual(machine.runs() == self.tag(title), name in come, (name, title))
            if name in come:
                self.test.assertEqual(machine.running_row(), row)
        # Nothing more is to send.
        for name in self.machines:
            self.test.assertEqual(self.letters(name), [])
        return len(come), len(self.machines) - len(come)
