"""Points 28 to 30: what the machines of a house can run, by its letters, held against all short histories."""

import random
import unittest

from farbuilds.errors import NoWay
from farbuilds.house import House
from farbuilds.machine import Machine
from tests.helpers import asked, refusal, things
from tests.histories import all_that_can_run, is_history, played
from tests.houses import graded, join, new_charter, publish, rolled, shelved, take_all
from tests.makers import (
    ANY, BUILDS, CHARTER, FACTS, HOLDERS, KEY, SMALL, SMALL_TAGS, TAGS, held, marks_by, standing_so,
)

LAST = 10 ** 9


class Cases(unittest.TestCase):
    def holds(self, house, names, moment, name="far"):
        tags = sorted(TAGS[each] for each in names)
        self.assertEqual(asked(house.can_run, name, moment), tags)
        self.assertIs(type(house.can_run(name, moment)), list)

    def ever(self, house, names, moment, name="far"):
        self.assertEqual(asked(house.can_ever, name, moment), sorted(TAGS[each] for each in names))

    def test_without_letters(self):
        house = shelved()
        join(house, moment=4)
        for moment in (4, 5, LAST):
            self.holds(house, ["app"], moment)
            self.ever(house, ["app"], moment)
        self.assertEqual(asked(house.shows, "far", TAGS["app"], 4), [])

    def test_from_letter_to_letter(self):
        house = rolled(span=10)
        machine = join(house)
        house.letters("far", 2)
        self.ever(house, ["app"], 2)
        # The machine takes them, but the house hears of it later.
        take_all(machine, house.letters("far", 3), 3)
        house.hear(machine.report(4), 5)
        self.ever(house, ["app"], 5)
        house.letters("far", 6)
        for moment in range(4, 20):
            self.holds(house, ["app", "web"] if moment >= 6 else ["app"], moment)
        self.ever(house, ["app", "web"], 6)
        self.assertEqual(house.sure(5), [("far", TAGS["app"])])
        self.assertEqual(house.sure(6), [])

    def test_what_is_given_later_changes_nothing_at_an_earlier_moment(self):
        house = rolled(span=10)
        machine = join(house)
        take_all(machine, house.letters("far", 3), 3)
        house.hear(machine.report(4), 5)
        seen = {}
        for moment in range(5, 40, 7):
            for earlier in range(4, moment):
                self.assertEqual(house.can_run("far", earlier), seen.setdefault(earlier, house.can_run("far", earlier)))
            house.letters("far", moment)

    def test_a_report_from_behind_the_end(self):
        house = rolled(span=10)
        machine = standing_so((0, 0, None, 0, ()), (held("app"), held("web")), graded(1))
        house.add_machine("far", KEY, FACTS, 0, machine.report(0))
        house.letters("far", 5)
        self.assertEqual(house.last_end("web"), 15)
        for moment, names in ((15, ["app", "web"]), (16, ["app"])):
            other = house.copy()
            self.assertEqual(other.hear(machine.report(moment), moment), "taken")
            self.holds(other, names, moment)
            self.ever(other, names, moment)
            self.holds(other, names, LAST)
        # At the end it can be begun, and found well later.
        self.holds(house, ["app", "web"], 16)
        self.holds(house, ["app"], 4)

    def test_from_a_trial_that_was_heard_of(self):
        for tries, at, names in ((2, 15, ["app", "web"]), (2, 16, ["app"]), (1, 16, ["app", "web"]), (0, 16, ["app", "web"])):
            house = rolled(span=10)
            join(house)
            machine = standing_so((0, 5, 15, tries, ()), (held("app"), held("web")), graded(1))
            house.hear(machine.report(at), at)
            self.holds(house, names, at)
            self.holds(house, names, LAST)

    def test_stopped(self):
        # Behind a stop it is started at no moment above the last end.
        house = rolled(span=10)
        machine = standing_so((0, 0, None, 0, ()), (held("app"), held("web")), graded(1))
        house.add_machine("far", KEY, FACTS, 0, machine.report(0))
        house.letters("far", 5)
        house.stop(6)
        self.assertEqual(house.letters("far", 7), [])
        house.hear(machine.report(house.last_end("web") + 1), 16)
        self.assertEqual(house.sure(16), [("far", TAGS["app"])])
        self.ever(house, ["app"], 16)

    def test_letters_of_several_roll_outs(self):
        house = rolled("web", span=1000)
        machine = join(house)
        for moment, name in enumerate(("web", "new", "old", "web")):
            house.roll(name, moment)
            take_all(machine, house.letters("far", moment), moment)
            house.hear(machine.report(moment), moment)
            self.assertEqual(house.letters("far", moment)[-1][0], "permit")
            # Items of all of them were given while app ran, so that each can be begun again by its permit.
            self.ever(house, ["app", "web", "new", "old"][:moment + 2], moment)
        self.assertEqual(machine.runs(), TAGS["app"])
        for name in ("web", "new", "old"):
            deeds = house.shows("far", TAGS[name], 3)
            self.assertEqual(played(machine, deeds).runs(), TAGS[name])

    def test_charters_and_lists_of_the_house(self):
        house = rolled(span=100)
        machine = join(house)
        new_charter(house, 4)
        publish(house, 2)
        take_all(machine, house.letters("far", 0), 0)
        self.assertEqual((machine.charter()[0], machine.listing()[0]), (4, 2))
        house.hear(machine.report(1), 1)
        new_charter(house, 5)
        publish(house, 3, names=("app",))
        publish(house, 4)
        self.assertEqual([letter[0] for letter in house.letters("far", 1)], ["charter", "list", "permit"])
        self.ever(house, ["app", "web"], 1)

    def test_sure_rises_by_names(self):
        house = rolled(span=100)
        for name, title in (("mc", "app"), ("ma", "web"), ("mb", "old"), ("md", "new")):
            join(house, name, title)
        self.assertEqual(
            asked(house.sure, 0), [("ma", TAGS["web"]), ("mb", TAGS["old"]), ("mc", TAGS["app"]), ("md", TAGS["new"])],
        )
        machine = standing_so((0, 0, None, 0, ()), (held("app"), held("web")), graded(1))
        machine.name = "me"
        house.add_machine("me", KEY, FACTS, 0, machine.report(0))
        house.letters("me", 3)
        self.assertEqual([name for name, tag in house.sure(2)], ["ma", "mb", "mc", "md", "me"])
        self.assertEqual([name for name, tag in house.sure(3)], ["ma", "mb", "mc", "md"])

    def test_no_way(self):
        house = rolled()
        join(house, title="new")
        for thing in things() + [TAGS["web"], list(TAGS["new"]), TAGS["new"] + (0,), TAGS["new"][:2], ("new", True, TAGS["new"][2])]:
            error = refusal(NoWay, house.shows, "far", thing, 3)
            self.assertEqual(repr(error.tag), repr(thing))
        self.assertEqual(house.shows("far", TAGS["new"], 3), [])

    def test_shows_is_the_askers_own(self):
        house = rolled()
        machine = standing_so((0, 0, None, 0, ()), (held("app"), held("web")), graded(1))
        house.add_machine("far", KEY, FACTS, 0, machine.report(0))
        house.letters("far", 3)
        first = house.shows("far", TAGS["web"], 3)
        again = list(first)
        first.clear()
        self.assertEqual(house.shows("far", TAGS["web"], 3), again)


class Drawn(unittest.TestCase):
    """Houses of few letters: what each machine can run, against a going through all histories."""

    def test_against_all_histories(self):
        sizes = {}
        for seed in range(60):
            draw = random.Random(seed)
            scene = Scene(draw)
            for time in range(draw.choice((4, 8, 12))):
                scene.deed()
            for name in scene.machines:
                self.one_machine(draw, scene, name, sizes)
        self.assertGreater(sizes[2], 15)

    def one_machine(self, draw, scene, name, sizes):
        house, given = scene.house, scene.given[name]
        machine, since = scene.heard[name]
        if len(given) > 9:
            return
        ever = sorted(all_that_can_run(machine, since, given, LAST))
        self.assertEqual(asked(house.can_ever, name, max(since, scene.moment)), ever)
        sizes[len(ever)] = sizes.get(len(ever), 0) + 1
        ends = [letter[1][3] for letter, moment in given if letter[0] == "permit"] + [scene.moment]
        moments = {max(since, end + by) for end in ends for by in (-1, 0, 1)} | {since, LAST}
        for moment in draw.sample(sorted(moments), min(3, len(moments))):
            tags = sorted(all_that_can_run(machine, since, given, moment))
            self.assertEqual(asked(house.can_run, name, moment), tags)
            self.assertEqual((name, tags[0]) in house.sure(moment), len(tags) == 1)
            for tag in SMALL_TAGS.values():
                if tag not in tags:
                    self.assertEqual(refusal(NoWay, house.shows, name, tag, moment).tag, tag)
                    continue
                deeds = asked(house.shows, name, tag, moment)
                self.assertTrue(is_history(deeds, since, given, moment), deeds)
                end = played(machine, deeds)
                self.assertEqual((end.is_on(), end.runs()), (True, tag))


class Scene:
    """A house with one or two machines of small builds, and drawn deeds; what was given is kept by the scene's own."""

    def __init__(self, draw):
        self.draw = draw
        self.house = House(CHARTER, HOLDERS, span=draw.choice((2, 8, 40)))
        for name, build in SMALL.items():
            self.house.add_build(name, build, grade=draw.choice((1, 1, 2)))
        self.moment = 0
        self.lists = 0
        self.machines, self.heard, self.given = {}, {}, {}
        behind = None
        for name in ("ma", "mb")[:draw.choice((1, 2))]:
            machine = Machine(name, KEY, FACTS, CHARTER, "app", SMALL["app"])
            self.house.add_machine(name, KEY, FACTS, 0, machine.report(0), behind=behind)
            self.machines[name], self.heard[name], self.given[name] = machine, (machine.copy(), 0), []
            behind = draw.choice((None, name))
        self.publish()
        self.house.roll(draw.choice(("web", "new", "old")), 0)

    def publish(self):
        self.lists += 1
        entries = tuple(SMALL_TAGS[name] + (self.house.grades[SMALL_TAGS[name]], ANY) for name in sorted(SMALL))
        told = (self.lists, self.moment + self.draw.choice((3, 100)), entries)
        self.house.publish(told, marks_by(HOLDERS, "list", told))

    def deed(self):
        draw = self.draw
        self.moment += draw.choice((0, 1, 1, 4))
        kind = draw.random()
        if kind < 0.1:
            self.publish()
        elif kind < 0.35:
            self.house.roll(draw.choice(list(BUILDS)), self.moment)
        elif kind < 0.4:
            new_charter(self.house, self.house.last_charter()[0] + 1)
        name = draw.choice(list(self.machines))
        machine = self.machines[name]
        for letter in self.house.letters(name, self.moment):
            if letter not in [told for told, since in self.given[name]]:
                self.given[name].append((letter, self.moment))
        for letter, since in self.given[name]:
            if machine.is_on() and letter[0] != "permit" or draw.random() < 0.3:
                machine.take(letter, self.moment, writes=draw.choice((None,) * 6 + (0, 1)), torn=draw.random() < 0.5)
            if not machine.is_on():
                machine.start(self.moment)
        if draw.random() < 0.2:
            machine.start(self.moment)
        if draw.random() < 0.3:
            machine.well()
        if draw.random() < 0.7:
            self.heard[name] = (machine.copy(), self.moment)
            if self.house.hear(machine.report(self.moment), self.moment) != "taken":
                # As many writes at the same moment: it stands as it did.
                assert machine.report(self.moment) == self.heard[name][0].report(self.moment)
