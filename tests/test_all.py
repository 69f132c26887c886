"""Point 4, over the whole program: from texts to what runs, by letters that go as texts, some of them made up."""

import random
import unittest

from farbuilds.ahead import ahead
from farbuilds.aheadlooks import shows_ahead
from farbuilds.builds import build_of, row_of
from farbuilds.charters import lets_charter, lets_list, lets_permit
from farbuilds.desk import Desk
from farbuilds.least import least
from farbuilds.leastlooks import bars_less
from farbuilds.loglooks import dug_begun, dug_in, is_begun, is_in, ran
from farbuilds.machine import opened
from farbuilds.rules import lets
from farbuilds.steps import cost_of, written
from farbuilds.texts import read, show_build, show_charter, show_list, show_rule, show_steps
from tests.helpers import things
from tests.histories import is_history, played
from tests.makers import HOLDERS, marks_by
from tests.test_whole import Watch
from tests.worlds import TITLES, World

SHOWS = {"charter": show_charter, "list": show_list}


def letter_text(letter):
    """A letter as a text, by the texts of the program for what it has."""
    if letter[0] == "items":
        kind, tag, base, at, steps = letter
        return " ".join(map(str, (kind, *tag, *base, at))) + "\n" + show_steps(steps)
    kind, thing, marks = letter
    signed = "".join(f" {name} {mark}" for name, mark in marks)
    if kind == "permit":
        return " ".join(map(str, (kind, *thing))) + signed
    return kind + signed + "\n" + SHOWS[kind](thing)


def letter_of(text):
    """The letter that a text is written of."""
    first, line_feed, rest = text.partition("\n")
    kind, *words = [int(word) if word.isdigit() else word for word in first.split(" ")]
    if kind == "items":
        return (kind, tuple(words[:3]), tuple(words[3:6]), words[6], read("steps", rest))
    thing = tuple(words[:4]) if kind == "permit" else read(kind, rest)
    signed = words[4:] if kind == "permit" else words
    return (kind, thing, tuple(zip(signed[::2], signed[1::2])))


class Watched:
    """A look at one machine by the words of Let and Whole, beside that of one machine alone."""

    def __init__(self, test, machine):
        self.test = test
        self.watch = Watch(test, machine)
        self.charter = machine.charter()

    def take(self, machine, letter, moment, **cut):
        before = machine.copy()
        self.watch.machine = machine
        self.watch.ahead(letter)
        word = machine.take(letter, moment, **cut)
        if word == "taken":
            if letter[0] == "charter":
                self.test.assertTrue(lets_charter(before.charter(), letter[1], letter[2]))
            elif letter[0] == "list":
                self.test.assertTrue(lets_list(before.charter(), letter[1], letter[2]))
            elif letter[0] == "permit":
                self.test.assertTrue(lets_permit(before.charter(), letter[1], letter[2]))
                rule = next(entry[4] for entry in before.listing()[2] if entry[0] == letter[1][2])
                self.test.assertTrue(lets(rule, before.facts))
        if word is not None:
            self.watch.take(word, moment)
            self.watch.look()
        return word


class TextWorld(World):
    """A world whose charters, builds, lists and letters go as texts; the last machines also get letters of others."""

    # What runs is told apart by its row alone.
    MAY_BE_ALIKE = False

    def __init__(self, test, draw):
        self.sent = []
        World.__init__(self, test, draw)
        self.watched = {name: Watched(test, machine) for name, machine in self.machines.items()}
        free = [name for name in self.machines if self.is_free(name)]
        self.exposed = free[:draw.choice((0, 1, 2))]
        self.heads = [self.house.log().head()]
        self.words = {}

    def is_free(self, name):
        return self.plain.far[name]["behind"] is None and not any(far["behind"] == name for far in self.plain.far.values())

    def make_house(self):
        World.make_house(self)
        # All that was handed in can be written and read back.
        for title, (build, grade) in self.plain.builds.items():
            self.test.assertEqual(read("build", show_build(build)), build)
        for charter, marks in self.plain.charters:
            self.test.assertEqual(read("charter", show_charter(charter)), charter)

    def letters(self, name):
        letters = World.letters(self, name)
        for letter in letters:
            if letter[0] == "items":
                self.look_at_items(letter)
            self.sent.append((name, letter))
        return letters

    def look_at_items(self, letter):
        """No steps that write the same are cheaper, and a paper shows it."""
        kind, tag, base, at, steps = letter
        old, row = row_of(self.plain.builds[base[0]][0]), row_of(self.plain.builds[tag[0]][0])
        cost, others, paper = least(old, row, start=at)
        self.test.assertEqual(written(old, row[:at], steps), row)
        self.test.assertEqual(cost_of(steps), cost)
        self.test.assertTrue(bars_less(old, row, paper, cost_of(steps), start=at))

    def take(self, name, letter, **cut):
        letter = letter_of(letter_text(letter))
        return self.take_as_it_is(name, letter, **cut)

    def take_as_it_is(self, name, letter, **cut):
        word = self.watched[name].take(self.machines[name], letter, self.moment, **cut)
        self.words[word] = self.words.get(word, 0) + 1
        return word

    def start(self, name, **cut):
        tag = World.start(self, name, **cut) if name not in self.exposed else self.machines[name].start(self.moment, **cut)
        if tag is not None:
            watch = self.watched[name].watch
            watch.machine = self.machines[name]
            watch.start(tag, self.moment)
            watch.look()
        return tag

    def well(self, name, **cut):
        told = World.well(self, name, **cut)
        if told is not None:
            watch = self.watched[name].watch
            watch.machine = self.machines[name]
            watch.well(told, self.moment)
            watch.look()
        return told

    def look_closely(self):
        """Of machines to which letters of others came, what can run isn't promised."""
        for name, machine in self.machines.items():
            if name not in self.exposed and machine.is_on():
                self.test.assertIn(machine.runs(), self.house.can_run(name, self.moment))
        self.test.assertEqual(self.house.log().things(), self.plain.logged)
        self.heads.append(self.house.log().head())

    def made_up(self):
        """A letter that the house didn't give to this machine comes to it."""
        draw = self.draw
        if not self.exposed:
            return
        name = draw.choice(self.exposed)
        machine = self.machines[name]
        if not machine.is_on():
            self.start(name)
            return
        letter = draw.choice((self.forged_permit, self.forged_list, self.forged_items, self.another_ones, lambda of: draw.choice(things())))(name)
        self.take_as_it_is(name, letter, writes=draw.choice((None, None, None, 0, 2)), torn=draw.random() < 0.5)

    def forged_permit(self, name):
        machine = self.machines[name]
        permit = (machine.boot()[1] + 1, name, self.draw.choice(TITLES), self.moment + 50)
        # One right mark at the most, and none where one is enough: else the permit would be let.
        few = HOLDERS[:self.draw.randrange(min(2, machine.charter()[2][2]))]
        holders = few + tuple((holder, key + self.draw.choice((200, 300))) for holder, key in HOLDERS)
        return ("permit", permit, marks_by(holders, "permit", permit))

    def forged_list(self, name):
        tags = [self.tag(title) for title in sorted(TITLES)]
        told = (500, 10 ** 9, tuple(tag[:2] + ((tag[2] + 1) % 997, 9, ("all",)) for tag in tags))
        return ("list", told, marks_by(HOLDERS[:1], "list", told) * 3)

    def forged_items(self, name):
        title = self.draw.choice(TITLES)
        tag, runs = self.tag(title), self.machines[name].runs()
        many = self.draw.randrange(1, tag[1] + 2)
        return ("items", tag, runs, 0, (("new", tuple(self.draw.choice(("x", "y", "q", "=a")) for nth in range(many))),))

    def another_ones(self, name):
        permits = [letter for to, letter in self.sent if to != name and letter[0] == "permit"]
        return self.draw.choice(permits or [letter for to, letter in self.sent] or [()])

    def reopen(self):
        """A machine is opened from its cells, or copied, and goes on alike."""
        name = self.draw.choice(list(self.machines))
        machine = self.machines[name]
        if machine.is_on():
            self.machines[name] = machine.copy()
        else:
            self.machines[name] = opened(name, machine.key, machine.facts, machine.cells())
        self.test.assertEqual(self.machines[name], machine)

    def look_at_histories(self):
        """Of each tag that a machine can run a history is told that ends so."""
        for name in self.machines:
            if name in self.exposed:
                continue
            report, moment, machine = self.plain.far[name]["heard"][-1]
            for tag in self.house.can_run(name, self.moment):
                deeds = self.house.shows(name, tag, self.moment)
                self.test.assertTrue(is_history(deeds, report[1][2], self.plain.far[name]["given"], self.moment))
                end = played(machine, deeds)
                self.test.assertEqual((end.is_on(), end.runs()), (True, tag))

    def look_at_log(self):
        """Papers of what stands in the log are let by; wrong things by none, but with two unlike things of one sum."""
        log = self.house.log()
        for number, thing in enumerate(log.things()):
            paper = log.paper(number)
            self.test.assertTrue(is_in(log.head(), number, thing, paper))
            self.test.assertIsNone(dug_in(log, number, thing, paper))
            wrong = ("stop", self.draw.randrange(10 ** 6))
            found = dug_in(log, number, wrong, paper)
            self.test.assertEqual(found is not None, is_in(log.head(), number, wrong, paper))
            if thing[0] == "report":
                key = self.machines[thing[1][0]].key
                boot, rooms = thing[1][5:]
                on_trial = boot[2] is not None and boot[3] < 2
                self.test.assertEqual(ran(log.head(), key, number, thing, paper), rooms[1 - boot[0] if on_trial else boot[0]][0])
        for head in self.heads:
            if head[0] > 0:
                self.test.assertTrue(is_begun(head, log.head(), log.begun(head[0])))
                self.test.assertIsNone(dug_begun(log, log, []))

    def who_can_come(self, title):
        """Held against what is told ahead, where no gate is shut by failures."""
        come = World.who_can_come(self, title)
        tag, gates = self.tag(title), self.plain.rolled[1]
        rule = next(entry[4] for entry in self.plain.lists[-1][0][2] if entry[0] == title)
        machines = tuple(
            (
                name, self.plain.far[name]["ring"], lets(rule, machine.facts) and tag not in machine.boot()[4], machine.runs() == tag,
                self.grade(machine.runs()), self.plain.far[name]["behind"],
            )
            for name, machine in self.machines.items()
        )
        names, whys = ahead(machines, gates, self.grade(tag))
        self.test.assertTrue(shows_ahead(machines, gates, self.grade(tag), (names, whys)))
        failed = [name for name, machine in self.machines.items() if tag in machine.boot()[4]]
        if not failed:
            has = {one[0] for one in machines if one[3]}
            self.test.assertEqual(has | set(names), come)
            self.test.assertEqual(sorted(come | {name for name, why in whys} | {one[0] for one in machines if not one[2]}), sorted(self.machines))
        return come


class Drawn(unittest.TestCase):
    def test_from_texts_to_what_runs(self):
        words, exposed, rolled = {}, 0, 0
        for seed in range(100):
            world = TextWorld(self, random.Random(seed))
            exposed += len(world.exposed)
            for time in range(world.draw.choice((60, 160))):
                world.deed()
                if world.draw.random() < 0.25:
                    world.made_up()
                if world.draw.random() < 0.1:
                    world.reopen()
                if time % 20 == 0:
                    world.look_closely()
                    world.look_at_histories()
            world.look_at_log()
            world.all_come()
            for word, many in world.words.items():
                words[word] = words.get(word, 0) + many
            title = world.plain.rolled[0]
            text = show_build(world.plain.builds[title][0])
            for name in world.who_can_come(title):
                self.assertEqual(show_build(build_of(world.machines[name].running_row())), text)
                rolled += 1
        self.assertGreater(exposed, 30)
        self.assertGreater(rolled, 100)
        for word in ("taken", "strange", "known", "unmarked", "other", "old", "base", "runs", "trial", "wrong", "room", None):
            self.assertGreater(words.get(word, 0), 0, (word, words))

    def test_letters_go_as_texts(self):
        for seed in range(20):
            world = TextWorld(self, random.Random(seed))
            for time in range(60):
                world.deed()
            for name, letter in world.sent:
                self.assertEqual(letter_of(letter_text(letter)), letter)


class AtADesk(unittest.TestCase):
    """All of it by rows of texts: a roll-out, a stop, a going back."""

    BUILDS = {"first": "file bin a b c\nfile conf x", "second": "file bin a b c d\nfile conf x y", "third": "file bin c b a"}

    def test_to_and_back(self):
        desk = Desk()
        rule = show_rule(("any", ("least", "disk", 4), ("is", "kind", "big")))
        self.assertEqual(desk.say("house 5 ann bob\ncharter 1 2 1 2\nholder ann 17\nholder bob 29"), "ok")
        for grade, (name, text) in enumerate(self.BUILDS.items()):
            self.assertEqual(desk.say(f"build {name} {grade}\n{text}"), "ok")
        rows = {name: row_of(read("build", text)) for name, text in self.BUILDS.items()}
        for row in ("ma 3 0 - first disk 9", "mb 4 1 ma first disk 9", "mc 5 1 ma first kind big", "md 6 2 - first disk 3"):
            self.assertEqual(desk.say("machine " + row), "ok")
        tags = {row.split(" ")[0]: row for row in [" ".join(map(str, desk.house.tags[name])) for name in self.BUILDS]}
        entries = "\n".join(f"entry {tags[name]} {grade} {rule}" for grade, name in enumerate(self.BUILDS))
        self.assertEqual(desk.say("list\nlist 1 9999\n" + entries), "ok")
        moment = 0
        # Down from third those behind ma go first, so that no gate may wait for it.
        for name, gates in (("second", " 1,2,0 2,0,0"), ("third", " 1,2,0 2,0,0"), ("first", ""), ("second", " 1,9,0")):
            self.assertEqual(desk.say(f"roll {name}{gates}"), "ok")
            for time in range(30):
                moment += 1
                self.one_round(desk, moment)
            ran = [desk.say("runs " + machine) for machine in ("ma", "mb", "mc", "md")]
            self.assertEqual(ran, [tags[name]] * 3 + [tags["first"]])
            self.assertEqual(desk.say("sure"), ", ".join(f"{machine} {tag}" for machine, tag in zip(("ma", "mb", "mc", "md"), ran)))
            for machine in ("ma", "mb", "mc"):
                self.assertEqual(desk.machines[machine].running_row(), rows[name])
                self.assertEqual(show_build(build_of(desk.machines[machine].running_row())), self.BUILDS[name])
        self.assertEqual(desk.say("stop"), "ok")
        self.assertLess(int(desk.say("end third")), moment)

    def one_round(self, desk, moment):
        self.assertEqual(desk.say(f"at {moment}"), "ok")
        for machine in ("ma", "mb", "mc", "md"):
            told = desk.say("letters " + machine)
            for part in [] if told == "none" else told.split(", "):
                self.assertEqual(desk.say("take " + part.split(" ")[0]), "taken")
            desk.say("start " + machine)
            desk.say("well " + machine)
            self.assertEqual(desk.say("hear " + desk.say("report " + machine)), "taken")
