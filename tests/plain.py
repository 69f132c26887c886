"""A plain machine of the tests' own, put down as the points 15 to 20 tell it."""

from farbuilds.charters import lets_charter, lets_list, lets_permit
from farbuilds.errors import NoSteps, Off
from farbuilds.rules import lets
from farbuilds.steps import written
from farbuilds.sums import sum_of


class Plain:
    def __init__(self, name, facts, charter, tag, row):
        self.name = name
        self.facts = facts
        self.begun = 0
        self.marks = [{"turn": 1, "charter": charter, "list": None, "room": 0, "number": 0, "end": None, "tries": 0, "failed": []}, None]
        self.rooms = [{"tag": tag, "items": list(row)}, {"tag": None, "items": []}]
        self.on = True

    def place(self):
        return max((0, 1), key=lambda place: self.marks[place]["turn"] if self.marks[place] else 0)

    def stands(self):
        return self.marks[self.place()]

    def on_trial(self):
        return self.stands()["end"] is not None and self.stands()["tries"] < 2

    def running(self):
        room = self.stands()["room"]
        return self.rooms[1 - room if self.on_trial() else room]

    def other(self):
        return self.rooms[1 - self.stands()["room"]]

    def cells(self):
        marks = tuple(mark and (
            mark["turn"], mark["charter"], mark["list"],
            (mark["room"], mark["number"], mark["end"], mark["tries"], tuple(mark["failed"])),
        ) for mark in self.marks)
        return (self.begun, marks, tuple((room["tag"], tuple(room["items"])) for room in self.rooms))

    def write(self, kind, worth):
        if kind == "mark":
            place = self.place()
            self.marks[1 - place] = {**self.marks[place], "turn": self.marks[place]["turn"] + 1, **worth}
        elif kind == "tag":
            self.other().update(tag=worth, items=[])
        else:
            self.other()["items"].append(worth)

    def tear(self, kind):
        if kind == "mark":
            self.marks[1 - self.place()] = None
        elif kind == "tag":
            self.other().update(tag=None, items=[])

    def deed(self, due, told, writes, torn):
        for done, (kind, worth) in enumerate(due):
            if done == writes:
                if torn:
                    self.begun += 1
                    self.tear(kind)
                self.on = False
                return None
            self.begun += 1
            self.write(kind, worth)
        return told() if callable(told) else told

    def start(self, moment, writes=None, torn=False):
        mark = self.stands()
        change = {"end": None, "tries": 0}
        if mark["end"] is None:
            due = []
        elif mark["tries"] == 0:
            due = [("mark", {**change, "failed": sorted({*mark["failed"], self.other()["tag"]})})]
        elif moment > mark["end"]:
            due = [("mark", change)]
        else:
            due = [("mark", {"tries": mark["tries"] - 1})]

        def told():
            self.on = True
            return self.running()["tag"]

        return self.deed(due, told, writes, torn)

    def well(self, writes=None, torn=False):
        if not self.on:
            raise Off()
        if not self.on_trial():
            return False
        change = {"room": 1 - self.stands()["room"], "end": None, "tries": 0, "failed": []}
        return self.deed([("mark", change)], True, writes, torn)

    def take(self, letter, moment, writes=None, torn=False, formed=True):
        if not self.on:
            raise Off()
        if not formed:
            return "strange"
        reasons, due = getattr(self, "take_" + letter[0])(*letter[1:], moment)
        for word, holds in reasons:
            if holds():
                return word
        return self.deed(due(), "taken", writes, torn)

    def take_charter(self, charter, marks, moment):
        mine = self.stands()["charter"]
        return [
            ("known", lambda: charter[0] <= mine[0]), ("far", lambda: charter[0] - mine[0] > 1),
            ("unmarked", lambda: not lets_charter(mine, charter, marks)),
        ], lambda: [("mark", {"charter": charter})]

    def take_list(self, told, marks, moment):
        mine = self.stands()["list"]
        return [
            ("known", lambda: mine is not None and told[0] <= mine[0]),
            ("unmarked", lambda: not lets_list(self.stands()["charter"], told, marks)), ("past", lambda: moment > told[1]),
        ], lambda: [("mark", {"list": told})]

    def take_items(self, tag, base, at, steps, moment):
        def whole():
            try:
                return written(tuple(self.running()["items"]), tuple(self.other()["items"][:at]), steps)
            except NoSteps:
                return ("too", "many") * 60

        return [
            ("trial", lambda: self.stands()["end"] is not None), ("runs", lambda: self.running()["tag"] == tag),
            ("base", lambda: self.running()["tag"] != base),
            ("place", lambda: at > 0 and (self.other()["tag"], len(self.other()["items"])) != (tag, at)),
            ("wrong", lambda: len(whole()) > tag[1]),
        ], lambda: [("tag", tag)] * (at == 0) + [("item", item) for item in whole()[at:]]

    def take_permit(self, permit, marks, moment):
        number, machine, name, end = permit
        mark = self.stands()
        entries = {entry[0]: entry for entry in mark["list"][2]} if mark["list"] else {}
        entry = entries.get(name)
        items = self.other()["items"]
        return [
            ("other", lambda: machine != self.name), ("old", lambda: number <= mark["number"]),
            ("unmarked", lambda: not lets_permit(mark["charter"], permit, marks)), ("over", lambda: moment > end),
            ("unlisted", lambda: entry is None), ("past", lambda: moment > mark["list"][1]),
            ("unlet", lambda: not lets(entry[4], self.facts)), ("trial", lambda: mark["end"] is not None),
            ("runs", lambda: self.running()["tag"] == entry[:3]), ("failed", lambda: entry[:3] in mark["failed"]),
            ("room", lambda: self.other()["tag"] != entry[:3] or (len(items), sum_of(tuple(items))) != entry[1:3]),
        ], lambda: [("mark", {"number": number, "end": end, "tries": 2})]
