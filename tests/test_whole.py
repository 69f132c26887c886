"""Point 4, of one machine: Let and Whole, and that it goes on alike, by drawn rows of deeds."""

import random
import unittest

from farbuilds.errors import Off
from farbuilds.least import least
from farbuilds.machine import opened
from farbuilds.sums import sum_of
from tests.makers import (
    ANY, BUILDS, CHARTER, FACTS, HOLDERS, KEY, ROWS, TAGS, charter_letter, items_letter, list_letter, made, permit_letter,
)
from tests.plain import Plain

NAMES = tuple(BUILDS)


def drawn_letter(draw, machine, moment):
    """A letter, most often one that could be taken, and whether it is one by form."""
    runs = machine.runs()[0] if machine.is_on() else draw.choice(NAMES)
    kind = draw.choice(("charter", "list", "items", "items", "items", "permit", "permit", "strange"))
    by = draw.choice((HOLDERS, HOLDERS, HOLDERS[:2], HOLDERS[:1]))
    if kind == "charter":
        return charter_letter(machine.charter()[0] + draw.choice((0, 1, 1, 2)), by=by), True
    if kind == "list":
        number = (machine.listing() or (0,))[0] + draw.choice((0, 1, 1))
        names = NAMES if draw.random() < 0.8 else draw.sample(NAMES, 2)
        rule = ANY if draw.random() < 0.9 else ("least", "disk", 6)
        return list_letter(max(1, number), max(0, moment + draw.choice((-1, 0, 10, 60))), names, rule, by), True
    if kind == "items":
        return drawn_items(draw, machine, runs), True
    if kind == "permit":
        tag = machine.cells()[2][1 - machine.boot()[0]][0]
        name = tag[0] if tag and draw.random() < 0.8 else draw.choice(NAMES)
        number = machine.boot()[1] + draw.choice((0, 1, 1, 1, 2))
        return permit_letter(max(1, number), name, max(0, moment + draw.choice((-1, 0, 2, 9))), draw.choice(("far", "far", "far", "near")), by), True
    letter = draw.choice((charter_letter(4), list_letter(1), items_letter("web", "app"), permit_letter(1, "web")))
    return draw.choice((None, (), list(letter), letter[:-1], letter + (0,), ("report",) + letter[1:], (letter[0], list(letter[1])))), False


def drawn_items(draw, machine, runs):
    tag, row = machine.cells()[2][1 - machine.boot()[0]]
    name = draw.choice([name for name in NAMES if name != runs])
    at = 0
    if tag and draw.random() < 0.6:
        name, at = tag[0], min(len(row), draw.choice((len(row), len(row), 1)))
    base = runs if draw.random() < 0.9 else draw.choice(NAMES)
    steps = least(ROWS[base], ROWS[name], start=min(at, len(ROWS[name])))[1]
    if draw.random() < 0.3:
        steps = steps[:-1]
    if draw.random() < 0.1:
        steps = steps + (draw.choice((("new", ("q",)), ("old", 0, 9), ("own", 0, 2))),)
    return ("items", TAGS[name], TAGS[base], at, steps)


class Drawn(unittest.TestCase):
    def test_against_a_plain_machine(self):
        told = {}
        for seed in range(400):
            self.one_row(random.Random(seed), told)
        # The draws come to all words.
        for word in ("taken", "strange", "known", "far", "unmarked", "past", "trial", "runs", "base", "place", "wrong", "other", "old",
                     "over", "unlisted", "unlet", "failed", "room", "cut", "off", True, False) + tuple(TAGS.values()):
            self.assertGreater(told.get(word, 0), 3, word)

    def one_row(self, draw, told):
        machine = made()
        plain = Plain("far", FACTS, CHARTER, TAGS["app"], ROWS["app"])
        watch = Watch(self, machine)
        moment = 0
        for time in range(80):
            moment += draw.choice((0, 0, 0, 1, 4))
            writes = draw.choice((None, None, None, None, 0, 1, 2, 3))
            torn = draw.random() < 0.5
            kind = draw.choice(("take", "take", "take", "take", "start", "start", "well", "off", "open"))
            if not machine.is_on() and draw.random() < 0.7:
                kind = "start"
            if kind == "open":
                # Opened from its cells, all goes on alike.
                machine = opened("far", KEY, FACTS, machine.cells()) if not machine.is_on() else machine.copy()
                watch.machine = machine
            elif kind == "off":
                machine.off()
                plain.on = False
            else:
                word = self.one_deed(draw, machine, plain, watch, kind, moment, writes, torn)
                told[word] = told.get(word, 0) + 1
            self.assertEqual(machine.cells(), plain.cells())
            self.assertIs(machine.is_on(), plain.on)
            if plain.on:
                self.assertEqual((machine.runs(), machine.running_row()), (plain.running()["tag"], tuple(plain.running()["items"])))
            else:
                self.assertIsNone(machine.runs())
            watch.look()

    def one_deed(self, draw, machine, plain, watch, kind, moment, writes, torn):
        if kind == "take":
            letter, formed = drawn_letter(draw, machine, moment)
            watch.ahead(letter)
            one = answer(lambda: machine.take(letter, moment, writes=writes, torn=torn))
            other = answer(lambda: plain.take(letter, moment, writes, torn, formed))
        elif kind == "start":
            one = answer(lambda: machine.start(moment, writes=writes, torn=torn))
            other = answer(lambda: plain.start(moment, writes, torn))
        else:
            one = answer(lambda: machine.well(writes=writes, torn=torn))
            other = answer(lambda: plain.well(writes, torn))
        self.assertEqual(one, other)
        self.assertIs(type(one), type(other))
        if one not in ("off", "cut"):
            getattr(watch, kind)(one, moment)
        return one


def answer(deed):
    try:
        told = deed()
    except Off:
        return "off"
    return "cut" if told is None else told


class Watch:
    """What may run, by the words of point 4 alone: kept from what is taken and told, not from boot."""

    def __init__(self, test, machine):
        self.test = test
        self.machine = machine
        self.well_row = machine.running_row()
        self.trial = None
        self.starts = 0
        self.over = []
        self.letter = self.listing = self.cells = None

    def ahead(self, letter):
        self.letter = letter
        self.listing = self.machine.listing()
        self.cells = self.machine.cells()

    def take(self, word, moment):
        if word != "taken" or self.letter[0] != "permit":
            return
        number, name, title, end = self.letter[1]
        entry = next(entry for entry in self.listing[2] if entry[0] == title)
        self.test.assertLessEqual(moment, min(end, self.listing[1]))
        rows = [row for tag, row in self.cells[2] if tag == entry[:3]]
        self.test.assertEqual(len(rows), 1)
        self.test.assertEqual((len(rows[0]), sum_of(rows[0])), entry[1:3])
        self.test.assertNotIn(entry[:3], self.over)
        self.trial = (entry[:3], rows[0], end)
        self.starts = 0

    def start(self, tag, moment):
        row = self.machine.running_row()
        if row == self.well_row:
            if self.trial and self.starts == 2:
                self.over.append(self.trial[0])
            self.trial = None
            return
        self.test.assertEqual((tag, row), self.trial[:2])
        self.test.assertLessEqual(moment, self.trial[2])
        self.starts += 1
        self.test.assertLessEqual(self.starts, 2)

    def well(self, told, moment):
        if told:
            self.well_row = self.machine.running_row()
            self.test.assertEqual(self.well_row, self.trial[1])
            self.test.assertGreater(self.starts, 0)
            self.trial = None
            self.over = []

    def look(self):
        if self.machine.is_on():
            row = self.machine.running_row()
            self.test.assertTrue(row == self.well_row or row == self.trial[1] and self.starts > 0)


class Cuts(unittest.TestCase):
    def test_behind_any_cuts_the_first_whole_start_runs_what_was_whole(self):
        for cut_at in range(0, 12):
            for torn in (False, True):
                machine = made()
                rows = [ROWS["app"]]
                left = cut_at
                for letter in (list_letter(1), items_letter("web", "app", to=3), items_letter("web", "app", 3), permit_letter(1, "web", 9)):
                    before = machine.cells()[0]
                    if machine.is_on():
                        machine.take(letter, 0, writes=left, torn=torn)
                        left -= machine.cells()[0] - before
                # A row of starts that are cut, too, leaves all as it was.
                for time in range(3):
                    machine.start(0, writes=0, torn=torn)
                self.assertIn(machine.start(0), (TAGS["app"], TAGS["web"]))
                if machine.runs() == TAGS["web"]:
                    rows.append(ROWS["web"])
                self.assertEqual(machine.running_row(), rows[-1])
                self.assertEqual(machine.runs() == TAGS["web"], cut_at >= 9)

    def test_twice_at_the_most_by_one_permit(self):
        for seed in range(40):
            draw = random.Random(seed)
            machine = made()
            for letter in (list_letter(1), items_letter("web", "app"), permit_letter(1, "web", 50)):
                machine.take(letter, 0)
            ran = []
            for time in range(20):
                ran.append(machine.start(draw.choice((0, 1, 2)), writes=draw.choice((0, 1, None)), torn=draw.random() < 0.5))
            self.assertEqual(ran.count(TAGS["web"]), 2)
            self.assertEqual(machine.start(0), TAGS["app"])
            self.assertEqual(machine.boot()[4], (TAGS["web"],))
            self.assertEqual(machine.take(permit_letter(2, "web", 50), 0), "failed")
            # Till another one was found well.
            machine.take(items_letter("new", "app"), 0)
            self.assertEqual(machine.take(permit_letter(3, "new", 50), 0), "taken")
            machine.start(0)
            machine.well()
            machine.take(items_letter("web", "new"), 0)
            self.assertEqual(machine.take(permit_letter(4, "web", 50), 0), "taken")
