"""A plain house of the tests' own, put down as the points 22 to 27 and 35 tell it, from all that was ever heard and told.

It keeps, beside each report, a copy of the machine that told it, so that what
the machine has is known without a reading of the report.
"""

from farbuilds.builds import row_of, tag_of
from farbuilds.known import can_ever
from farbuilds.least import least
from farbuilds.marks import mark_of
from farbuilds.rules import lets
from farbuilds.sums import sum_of


class PlainHouse:
    def __init__(self, charter, holders, span):
        self.charters = [(charter, ())]
        self.holders = holders
        self.span = span
        self.builds = {}
        self.lists = []
        self.rolled = None
        self.far = {}
        self.permits = []
        self.logged = []

    def add_machine(self, machine, facts, ring, behind, report):
        self.far[machine.name] = {
            "facts": facts, "ring": ring, "behind": behind, "heard": [(report, report[1][2], machine.copy())], "given": [],
        }
        self.logged.append(report)

    def hear(self, report, moment, machine):
        if machine is None or report[1][0] not in self.far:
            return "unknown"
        heard = self.far[report[1][0]]["heard"]
        last = heard[-1][0][1]
        if report[1][1] < last[1] or report[1][1] == last[1] and report[1][2] <= last[2]:
            return "old"
        heard.append((report, moment, machine.copy()))
        self.logged.append(report)
        return "taken"

    def last_body(self, name):
        return self.far[name]["heard"][-1][0][1]

    def tag(self, name):
        return tag_of(name, row_of(self.builds[name][0]))

    def well_since(self, name):
        """Since when it is found well of the build rolled out; None where it isn't."""
        since = None
        for report, moment, machine in self.far[name]["heard"]:
            boot, rooms = report[1][5:]
            if boot[2] is None and rooms[boot[0]][0] == self.tag(self.rolled[0]):
                since = moment if since is None else since
            else:
                since = None
        return None if since is None else max(since, self.rolled[2])

    def is_open(self, ring, moment):
        if self.rolled is None:
            return False
        title, gates, begun = self.rolled
        if ring == 0 or ring - 1 >= len(gates):
            return True
        need, wait, most = gates[ring - 1]
        lesser = [name for name in self.far if self.far[name]["ring"] < ring]
        well = [name for name in lesser if self.well_since(name) is not None and self.well_since(name) + wait <= moment]
        failed = [name for name in lesser if self.tag(title) in self.last_body(name)[5][4]]
        return len(well) >= need and len(failed) <= most

    def is_wanted(self, name, moment):
        if self.rolled is None or not self.is_open(self.far[name]["ring"], moment):
            return False
        number, until, entries = self.lists[-1][0]
        rules = [entry[4] for entry in entries if entry[0] == self.rolled[0]]
        room, permit, end, tries, failed = self.last_body(name)[5]
        tag = self.tag(self.rolled[0])
        return (
            until >= moment and len(rules) == 1 and lets(rules[0], self.far[name]["facts"]) and end is None
            and self.last_body(name)[6][room][0] != tag and tag not in failed
        )

    def due(self, name, moment):
        """The letters for a machine, ahead of a look at those about it."""
        body = self.last_body(name)
        letters = [("charter",) + pair for pair in self.charters if pair[0][0] > body[3]]
        if self.lists and self.lists[-1][0][0] > body[4] and moment <= self.lists[-1][0][1]:
            letters.append(("list",) + self.lists[-1])
        if self.is_wanted(name, moment):
            letters.append(self.wanted_letter(name, moment))
        return letters

    def wanted_letter(self, name, moment):
        title = self.rolled[0]
        tag, row = self.tag(title), row_of(self.builds[title][0])
        boot, rooms = self.last_body(name)[5:]
        other = rooms[1 - boot[0]]
        if other == (tag, len(row), sum_of(row)):
            return self.permit(name, title, moment)
        at = other[1] if other[0] == tag and other[1] < len(row) and other[2] == sum_of(row[:other[1]]) else 0
        base = rooms[boot[0]][0]
        return ("items", tag, base, at, least(row_of(self.builds[base[0]][0]), row, start=at)[1])

    def permit(self, name, title, moment):
        mine = [(letter, charters) for letter, charters in self.permits if letter[1][1] == name]
        if mine:
            letter, charters = mine[-1]
            number, machine, build, end = letter[1]
            if build == title and end >= moment and number > self.last_body(name)[5][1] and charters == len(self.charters):
                return letter
        permit = (max([letter[1][0] for letter, charters in self.permits], default=0) + 1, name, title, min(moment + self.span, 10 ** 9))
        by = sorted(set(self.holders) & set(self.charters[-1][0][1]))
        return ("permit", permit, tuple((holder, mark_of(key, ("permit", permit))) for holder, key in by))

    def grades(self, name, more=()):
        """The grades that a machine can ever run, by what it has and was given, and more letters."""
        far = self.far[name]
        report, moment, machine = far["heard"][-1]
        tags = can_ever(name, far["facts"], machine.cells(), report[1][2], far["given"] + list(more))
        return [self.builds[tag[0]][1] for tag in tags]

    def keeps_order(self, name, more):
        mine, front = self.grades(name, more), self.far[name]["behind"]
        if front is not None and max(mine) > min(self.grades(front)):
            return False
        return not any(max(self.grades(other)) > min(mine) for other in self.far if self.far[other]["behind"] == name)

    def letters(self, name, moment):
        told = []
        for letter in self.due(name, moment):
            if not self.keeps_order(name, [(letter, moment)]):
                break
            told.append(letter)
            given = self.far[name]["given"]
            if letter not in [each for each, since in given]:
                given.append((letter, moment))
            if letter[0] == "permit" and letter not in [each for each, charters in self.permits]:
                self.permits.append((letter, len(self.charters)))
        return told

    def last_end(self, title):
        return max([letter[1][3] for letter, charters in self.permits if letter[1][2] == title], default=None)
