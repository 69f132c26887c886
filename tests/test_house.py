"""Point 22: a house as it is made, its deeds and each refusal of theirs; point 35: what it logs; copies."""

import unittest

from farbuilds.builds import row_of, tag_of
from farbuilds.errors import Known, NoBuild, NoHolder, NoMachine, NoOrder, NoReport, NoRoll, Taken, Unmarked
from farbuilds.house import House
from farbuilds.log import Log
from farbuilds.loglooks import ran
from farbuilds.machine import Machine
from farbuilds.marks import mark_of
from tests.helpers import as_list, asked, changed_once, more_or_fewer, of_another_kind, refusal, shown, things, unchanged
from tests.houses import GRADES, bring, graded, join, new_charter, publish, rolled, round_of, shelved, stands, take_all
from tests.makers import (
    ANY, BUILDS, CHARTER, FACTS, HOLDERS, KEY, TAGS, cells_of, charter_letter, held, items_letter, list_letter, made, marks_by,
    permit_letter, standing_so, switched_on,
)


class Refused(unittest.TestCase):
    """A look that a deed is refused and leaves the house as it was."""

    def is_refused(self, house, error, deed, *handed, **named):
        before, told = shown(house), stands(house)
        with self.assertRaises(error) as caught:
            unchanged(getattr(house, deed), *handed, **named)
        self.assertIs(type(caught.exception), error)
        self.assertEqual(shown(house), before)
        self.assertEqual(stands(house), told)
        return caught.exception


class Made(unittest.TestCase):
    def test_as_it_is_made(self):
        house = unchanged(House, CHARTER, HOLDERS)
        self.assertEqual(house.log(), Log())
        self.assertEqual(house.sure(0), [])
        self.assertEqual([house.is_open(ring, 0) for ring in range(4)], [False] * 4)
        self.assertIsNone(house.last_end("app"))
        self.assertRaises(NoRoll, house.stop, 0)
        self.assertRaises(NoBuild, house.roll, "app", 0)

    def test_span_left_out_is_thirty(self):
        for span, end in ((None, 30), (1, 1), (1000, 1000)):
            house = rolled() if span is None else rolled(span=span)
            machine = join(house)
            take_all(machine, house.letters("far", 0), 0)
            house.hear(machine.report(0), 0)
            self.assertEqual(house.letters("far", 0)[0][1], (1, "far", "web", end))

    def test_strange_holders(self):
        for holders, name in (
            ((("dan", 5),), "dan"), ((("ann", 6),), "ann"), ((HOLDERS[0], ("bob", 8), ("eve", 1)), "bob"), ((("ann", 7),), "ann"),
            ((("eve", 1), ("bob", 8)), "eve"), (HOLDERS + (("dan", 3),), "dan"),
        ):
            error = refusal(NoHolder, House, CHARTER, holders)
            self.assertEqual(error.name, name)
        for holders in (HOLDERS, HOLDERS[:1], HOLDERS[::-1], HOLDERS[1:]):
            self.assertIsNone(refusal(NoHolder, House, CHARTER, holders))


class AddBuild(Refused):
    def test_a_name_added_anew(self):
        house = shelved(("app",))
        for name, build, grade in (("app", BUILDS["app"], 1), ("app", BUILDS["web"], 5)):
            self.assertEqual(self.is_refused(house, Taken, "add_build", name, build, grade=grade).name, "app")
        self.assertIsNone(house.add_build("web", BUILDS["app"], grade=2))
        self.assertEqual(self.is_refused(house, Taken, "add_build", "web", BUILDS["app"]).name, "web")

    def test_the_grade_is_nought_where_left_out(self):
        house = House(CHARTER, HOLDERS)
        house.add_build("app", BUILDS["app"])
        told = (1, 100, (TAGS["app"] + (1, ANY),))
        self.is_refused(house, NoBuild, "publish", told, marks_by(HOLDERS, "list", told))
        told = (1, 100, (TAGS["app"] + (0, ANY),))
        house.publish(told, marks_by(HOLDERS, "list", told))


class AddMachine(Refused):
    def refused(self, house, error, name="near", key=KEY, facts=FACTS, ring=0, report=None, **named):
        return self.is_refused(house, error, "add_machine", name, key, facts, ring, report, **named)

    def test_it_is_added(self):
        house = shelved()
        machine = made()
        told = machine.report(5)
        self.assertIsNone(unchanged(house.add_machine, "far", KEY, FACTS, 2, told))
        self.assertEqual(house.can_run("far", 5), [TAGS["app"]])
        self.assertEqual(house.log().things(), [told])

    def test_facts_are_a_copy(self):
        house = rolled()
        facts = {"os": "linux", "disk": 5}
        publish(house, 2, rule=("is", "disk", 5))
        join(house, facts=facts)
        facts["disk"] = 6
        self.assertTrue(house.is_wanted("far", 0))

    def test_taken_ahead_of_all(self):
        house = shelved()
        join(house)
        for thing in (None, made("near").report(0), made("far", title="web").report(0)):
            self.assertEqual(self.refused(house, Taken, "far", report=thing, behind="none").name, "far")

    def test_no_report_of_anything(self):
        house = shelved()
        join(house)
        for thing in things() + [charter_letter(4), list_letter(1), items_letter("web", "app"), permit_letter(1, "web")]:
            self.refused(house, NoReport, report=thing, behind="none")

    def test_a_report_with_one_thing_otherwise(self):
        house = shelved()
        report = made("near").report(5)
        wrong = [part for kind in (as_list, more_or_fewer, of_another_kind) for part in changed_once(report, kind)]
        for thing in wrong:
            # Some are reports by form, but none is rightly marked.
            if type(thing) is not tuple or thing[1:2] == report[1:2] or sum_is_other(thing, report):
                self.assertIsNotNone(refusal(NoReport, house.add_machine, "near", KEY, FACTS, 0, thing), thing)
        self.assertEqual(len(house.log()), 0)
        self.assertIsNone(house.add_machine("near", KEY, FACTS, 0, report))

    def test_each_number_of_a_report_is_marked(self):
        house = shelved()
        kind, body, mark = made("near").report(5)
        for place, other in ((1, 1), (2, 6), (3, 4), (4, 1), (5, (0, 1, None, 0, ())), (6, body[6][::-1])):
            changed = body[:place] + (other,) + body[place + 1:]
            self.refused(house, NoReport, report=(kind, changed, mark))
            if place < 5:
                self.assertIsNone(house.copy().add_machine("near", KEY, FACTS, 0, (kind, changed, mark_of(KEY, changed))))
        for other in range(1, 997, 83):
            self.refused(house, NoReport, report=(kind, body, (mark + other) % 997))

    def test_of_another_name_or_by_another_key(self):
        house = shelved()
        self.refused(house, NoReport, report=made("far").report(0), behind="none")
        self.refused(house, NoReport, report=made("near").report(0), key=KEY + 1, behind="none")
        body = made("near").report(0)[1]
        self.refused(house, NoReport, report=("report", body, mark_of(KEY + 1, body)))

    def test_of_one_on_trial(self):
        house = shelved()
        for tries in (0, 1, 2):
            cells = cells_of((0, 3, 50, tries, ()), (held("app"), held("web")))
            report = switched_on(cells).report(0)
            self.refused(house, NoReport, "far", report=report, behind="none")
        report = switched_on(cells_of((0, 3, None, 2, (TAGS["new"],)), (held("app"), held("web")))).report(0)
        self.assertIsNone(house.add_machine("far", KEY, FACTS, 0, report))

    def test_of_a_build_that_is_not_on_the_shelf(self):
        house = shelved(("app", "new"))
        error = self.refused(house, NoBuild, report=made("near", title="web").report(0), behind="none")
        self.assertEqual(error.name, TAGS["web"])
        # The same row by another name, and another row by a name of the shelf.
        for title, build in (("other", BUILDS["app"]), ("app", BUILDS["web"])):
            report = Machine("near", KEY, FACTS, CHARTER, title, build).report(0)
            error = self.refused(house, NoBuild, report=report, behind="none")
            self.assertEqual(error.name, tag_of(title, row_of(build)))
        # It is what runs that counts, not the other room.
        report = standing_so((1, 3, None, 0, ()), (held("app"), held("web"))).report(0)
        self.assertEqual(self.refused(house, NoBuild, "far", report=report).name, TAGS["web"])
        report = standing_so((0, 3, None, 0, ()), (held("app"), held("web"))).report(0)
        self.assertIsNone(house.add_machine("far", KEY, FACTS, 0, report))

    def test_a_strange_one_ahead(self):
        house = shelved()
        join(house)
        for behind in ("none", "near", "app"):
            error = self.refused(house, NoMachine, report=made("near", title="new").report(0), behind=behind)
            self.assertEqual(error.name, behind)
        join(house, "near", behind="far")

    def test_no_higher_grade_than_the_one_ahead(self):
        for front, title, fits in (
            ("app", "app", True), ("app", "old", True), ("app", "web", False), ("new", "web", True), ("old", "app", False),
        ):
            house = shelved()
            join(house, title=front)
            report = made("near", title=title).report(0)
            if fits:
                self.assertIsNone(house.add_machine("near", KEY, FACTS, 0, report, behind="far"))
            else:
                self.assertEqual(self.refused(house, NoOrder, report=report, behind="far").name, "far")

    def test_by_what_the_one_ahead_can_ever_run(self):
        # The one ahead runs new, and web was permitted to it, to 30.
        house = rolled("web")
        front = join(house, title="new")
        take_all(front, house.letters("far", 0), 0)
        house.hear(front.report(0), 0)
        for title in ("new", "web"):
            house.copy().add_machine("near", KEY, FACTS, 0, made("near", title=title).report(0), behind="far")
        house.letters("far", 0)
        for moment in (0, 20, 60):
            report = made("near", title="new").report(moment)
            self.assertEqual(self.refused(house, NoOrder, report=report, behind="far").name, "far")
            house.copy().add_machine("near", KEY, FACTS, 0, made("near", title="web").report(moment), behind="far")
        # By a report from behind the permit's end it can't any more.
        house.hear(front.report(31), 31)
        for moment in (20, 60):
            house.copy().add_machine("near", KEY, FACTS, 0, made("near", title="new").report(moment), behind="far")


def sum_is_other(thing, report):
    """Whether a changed report isn't by chance marked rightly."""
    try:
        return mark_of(KEY, thing[1]) != thing[2]
    except (TypeError, AttributeError, IndexError):
        return True


class NewCharter(Refused):
    def test_it_comes_by_marks(self):
        house = shelved()
        charter = (4, HOLDERS, (1, 1, 1))
        for marks in ((), marks_by(HOLDERS[:1], "charter", charter), marks_by(HOLDERS, "list", charter), None, 7):
            self.is_refused(house, Unmarked, "new_charter", charter, marks)
        self.assertIsNone(unchanged(house.new_charter, charter, marks_by(HOLDERS[:2], "charter", charter)))
        for number in (3, 4, 6, 1):
            charter = (number, HOLDERS, (1, 1, 1))
            self.is_refused(house, Unmarked, "new_charter", charter, marks_by(HOLDERS, "charter", charter))

    def test_by_its_own_holders_too(self):
        house = shelved()
        others = (("dan", 21), ("eve", 22))
        charter = (4, others, (2, 1, 1))
        for by in (HOLDERS, others, HOLDERS + others[:1]):
            self.is_refused(house, Unmarked, "new_charter", charter, marks_by(by, "charter", charter))
        house.new_charter(charter, marks_by(HOLDERS[1:] + others, "charter", charter))
        # From now on the new one lets.
        after = (5, others, (1, 1, 1))
        self.is_refused(house, Unmarked, "new_charter", after, marks_by(HOLDERS, "charter", after))
        house.new_charter(after, marks_by(others, "charter", after))


class Publish(Refused):
    def test_numbers_rise(self):
        house = shelved()
        publish(house, 5)
        for number in (1, 4, 5):
            # Known goes ahead of marks and builds.
            told = (number, 100, (("none", 3, 4, 5, ANY),))
            self.assertEqual(self.is_refused(house, Known, "publish", told, ()).number, number)
        publish(house, 999)

    def test_unmarked(self):
        house = shelved(("app",))
        told = graded(1)
        for marks in ((), None, marks_by(HOLDERS[:1], "list", told), marks_by(HOLDERS, "charter", told)):
            self.is_refused(house, Unmarked, "publish", told, marks)

    def test_unmarked_by_the_last_charter(self):
        house = shelved()
        others = (("dan", 21), ("eve", 22))
        new_charter(house, 4, others)
        told = graded(1)
        self.is_refused(house, Unmarked, "publish", told, marks_by(HOLDERS, "list", told))
        self.assertIsNone(unchanged(house.publish, told, marks_by(others, "list", told)))

    def test_entries_of_builds_on_the_shelf(self):
        house = shelved()
        app, web = TAGS["app"] + (1, ANY), TAGS["web"] + (2, ANY)
        wrong = [
            (app, TAGS["web"] + (3, ANY)), (app, ("web", 7, TAGS["web"][2], 2, ANY)), (app, ("web", 6, TAGS["web"][2] - 1, 2, ANY)),
            (("aaa",) + app[1:], app, ("none",) + web[1:], web), (app, ("zzz",) + TAGS["web"][1:] + (2, ANY)),
        ]
        for entries, name in zip(wrong, ("web", "web", "web", "aaa", "zzz")):
            told = (1, 100, entries)
            error = self.is_refused(house, NoBuild, "publish", told, marks_by(HOLDERS, "list", told))
            self.assertEqual(error.name, name)
        for entries in ((), (app,), (app, web)):
            told = (1, 100, entries)
            house.copy().publish(told, marks_by(HOLDERS, "list", told))

    def test_it_is_the_list_from_then_on(self):
        house = shelved()
        self.is_refused(house, NoBuild, "roll", "web", 0)
        publish(house, names=("web",))
        house.roll("web", 0)
        publish(house, 2, names=("app",))
        self.is_refused(house, NoBuild, "roll", "web", 0)
        house.roll("app", 0)


class RollAndStop(Refused):
    def test_no_entry_of_anything(self):
        house = shelved()
        for thing in things() + ["web", "none"]:
            self.assertEqual(repr(self.is_refused(house, NoBuild, "roll", thing, 0).name), repr(thing))
        publish(house, names=("web",))
        for thing in things() + ["app", "none", TAGS["web"], ["web"]]:
            self.assertEqual(repr(self.is_refused(house, NoBuild, "roll", thing, 0, gates=((1, 1, 1),)).name), repr(thing))
        self.assertIsNone(unchanged(house.roll, "web", 5, gates=((1, 1, 1),)))

    def test_in_the_place_of_another_one(self):
        house = rolled("web")
        join(house)
        self.assertTrue(house.is_wanted("far", 0))
        house.roll("app", 0, gates=((1, 0, 0), (9, 0, 0)))
        self.assertFalse(house.is_wanted("far", 0))
        self.assertEqual([house.is_open(ring, 0) for ring in range(4)], [True, True, False, True])
        # A refused one leaves the one that is.
        self.is_refused(house, NoBuild, "roll", "none", 3)

    def test_stop(self):
        house = rolled("web")
        join(house)
        self.assertIsNone(house.stop(3))
        self.assertFalse(house.is_wanted("far", 3))
        self.is_refused(house, NoRoll, "stop", 4)
        house.roll("web", 5)
        self.assertTrue(house.is_wanted("far", 5))


class Hear(unittest.TestCase):
    def heard(self, house, letter, moment=0):
        """What is told, and a look that what isn't taken changes nothing."""
        before = shown(house)
        word = unchanged(house.hear, letter, moment)
        if word != "taken":
            self.assertEqual(shown(house), before)
        return word

    def test_each_word(self):
        house = shelved()
        machine = join(house, moment=5)
        machine.take(charter_letter(4), 6)
        report = machine.report(6)
        kind, body, mark = report
        self.assertEqual(self.heard(house, (kind, body, (mark + 1) % 997)), "unmarked")
        self.assertEqual(self.heard(house, ("report", ("near",) + body[1:], mark)), "unknown")
        self.assertEqual(self.heard(house, report), "taken")
        self.assertEqual(self.heard(house, report), "old")
        elder = made().report(9)
        self.assertEqual(self.heard(house, elder), "old")
        # Unmarked goes ahead of old, unknown of unmarked.
        self.assertEqual(self.heard(house, elder[:2] + ((elder[2] + 1) % 997,)), "unmarked")
        self.assertEqual(self.heard(house, ("report", ("near",) + elder[1][1:], 0)), "unknown")

    def test_strange_of_anything(self):
        house = shelved()
        report = join(house).report(5)
        wrong = [part for kind in (as_list, more_or_fewer) for part in changed_once(report, kind)]
        for thing in things() + wrong + [charter_letter(4), permit_letter(1, "web"), report[1]]:
            self.assertEqual(self.heard(house, thing), "strange", thing)
        for thing in changed_once(report, of_another_kind):
            self.assertIn(self.heard(house, thing), ("strange", "unmarked"), thing)
        self.assertEqual(self.heard(house, report), "taken")

    def test_of_the_same_count_of_writes(self):
        house = shelved()
        machine = join(house, moment=10)
        for moment, word in ((9, "old"), (10, "old"), (11, "taken"), (11, "old"), (10, "old"), (20, "taken"), (19, "old")):
            self.assertEqual(self.heard(house, machine.report(moment), 30), word)

    def test_of_the_same_writes_and_moment_nothing_else_counts(self):
        house = shelved()
        kind, body, mark = join(house, moment=10).report(10)
        for place, other in ((3, 4), (4, 1), (5, (1, 9, None, 0, ()))):
            changed = body[:place] + (other,) + body[place + 1:]
            self.assertEqual(self.heard(house, (kind, changed, mark_of(KEY, changed))), "old")

    def test_by_writes_ahead_of_moments(self):
        house = shelved()
        machine = join(house, moment=10)
        machine.take(charter_letter(4), 3)
        # More writes are news, whatever the moment says.
        self.assertEqual(self.heard(house, machine.report(3), 30), "taken")
        self.assertEqual(self.heard(house, made().report(40), 40), "old")

    def test_late_twice_and_elder(self):
        house = rolled()
        machine = join(house)
        letters = house.letters("far", 0)
        first = machine.report(1)
        take_all(machine, letters, 1)
        second = machine.report(1)
        self.assertEqual([self.heard(house, letter, 9) for letter in (second, first, second)], ["taken", "old", "old"])
        self.assertEqual(house.letters("far", 9)[0][0], "permit")

    def test_a_report_that_runs_what_is_strange_is_heard(self):
        house = shelved(("app",))
        join(house)
        strange = standing_so((1, 3, None, 0, ()), (held("app"), held("web"))).report(5)
        self.assertEqual(self.heard(house, strange), "taken")


class Strange(unittest.TestCase):
    """Machines with charters, lists or items of others: 22 and 25 still hold."""

    def test_letters_are_told(self):
        house = rolled()
        for charter, listing, rooms in (
            ((1, HOLDERS, (1, 1, 1)), None, (held("app"), (None, ()))), ((9, HOLDERS, (1, 1, 1)), None, (held("app"), (None, ()))),
            (CHARTER, (7, 9, ()), (held("app"), (None, ()))), (CHARTER, None, (held("app"), (TAGS["web"], ("q", "q")))),
            (CHARTER, None, (held("app"), (("none", 9, 9), ("q", "q")))), (CHARTER, None, ((TAGS["app"], ("q",)), held("web", 3))),
        ):
            other = house.copy()
            join(other, "front")
            report = standing_so((0, 0, None, 0, ()), rooms, listing, charter).report(0)
            other.add_machine("far", KEY, FACTS, 0, report, behind="front")
            # Till the one ahead has come, the grade of the build rolled out is too high.
            join(other, "back", "old", behind="far")
            for name in ("far", "front", "back"):
                kinds = [letter[0] for letter in other.letters(name, 0)]
                if name == "far":
                    self.assertEqual(kinds[:1], ["charter"] if charter[0] == 1 else ["list"] if listing is None else ["items"])
            alone = house.copy()
            alone.add_machine("far", KEY, FACTS, 0, report)
            self.assertEqual(alone.letters("far", 0)[-1][0], "items")

    def test_a_build_that_comes_to_the_shelf_later(self):
        house = shelved(("app",))
        report = standing_so((0, 0, None, 0, ()), (held("app"), held("web"))).report(0)
        house.add_machine("far", KEY, FACTS, 0, report)
        house.add_build("web", BUILDS["web"], grade=2)
        publish(house, names=("app", "web"))
        house.roll("web", 0)
        # What the room has whole is not sent again.
        self.assertEqual([letter[0] for letter in house.letters("far", 0)], ["list", "permit"])
        self.assertEqual(house.can_run("far", 0), [TAGS["app"], TAGS["web"]])


class Names(unittest.TestCase):
    def test_no_machine_of_anything_ahead_of_all_else(self):
        house = shelved()
        join(house, "near")
        for thing in things() + ["far", "app", ("near",), ["near"]]:
            for ask in (
                lambda: house.letters(thing, 0), lambda: house.is_wanted(thing, 0), lambda: house.can_run(thing, 0),
                lambda: house.can_ever(thing, 0), lambda: house.shows(thing, None, 0),
            ):
                self.assertEqual(repr(refusal(NoMachine, ask).name), repr(thing))


class Logged(unittest.TestCase):
    def test_each_deed_in_order(self):
        house = House(CHARTER, HOLDERS)
        expected = []

        def holds(*more):
            expected.extend(more)
            log = asked(house.log)
            self.assertEqual(log.things(), expected)
            self.assertIs(type(log), Log)

        holds()
        for name in BUILDS:
            house.add_build(name, BUILDS[name], grade=GRADES[name])
        holds()
        machine = join(house, moment=2)
        holds(made().report(2))
        charter = new_charter(house, 4)
        holds(("charter", charter, marks_by(HOLDERS + HOLDERS, "charter", charter)))
        told = publish(house, 7)
        holds(("list", told, marks_by(HOLDERS, "list", told)))
        house.roll("web", 3)
        holds(("roll", "web", (), 3))
        house.roll("new", 4, gates=((1, 2, 3), (0, 0, 0)))
        holds(("roll", "new", ((1, 2, 3), (0, 0, 0)), 4))
        house.letters("far", 4)
        house.is_wanted("far", 4)
        holds()
        self.assertEqual(house.hear(machine.report(5), 6), "taken")
        holds(machine.report(5))
        self.assertEqual(house.hear(machine.report(5), 7), "old")
        self.assertEqual(house.hear(None, 7), "strange")
        holds()
        house.stop(8)
        holds(("stop", 8))
        self.assertRaises(NoRoll, house.stop, 9)
        self.assertRaises(NoBuild, house.roll, "none", 9)
        self.assertRaises(Known, publish, house, 7)
        self.assertRaises(Unmarked, new_charter, house, 9)
        self.assertRaises(NoReport, house.add_machine, "near", KEY, FACTS, 0, None)
        holds()

    def test_it_is_the_askers_own(self):
        house = rolled()
        log = house.log()
        log.add("more")
        self.assertEqual(len(house.log()), 2)
        house.stop(1)
        self.assertEqual(len(log), 3)
        self.assertEqual(len(house.log()), 3)

    def test_ran_of_each_report(self):
        house = rolled("web", span=5)
        machines = {"far": join(house), "near": join(house, "near", "old", key=10)}
        keys = {"far": KEY, "near": 10}
        for moment in range(1, 12):
            for machine in machines.values():
                take_all(machine, house.letters(machine.name, moment), moment)
                machine.start(moment)
                house.hear(machine.report(moment), moment)
                if moment % 3 == 0:
                    machine.well()
        log = house.log()
        ran_tags = set()
        for number, thing in enumerate(log.things()):
            paper = log.paper(number)
            for name, key in keys.items():
                tag = unchanged(ran, log.head(), key, number, thing, paper)
                if thing[0] == "report" and mark_of(key, thing[1]) == thing[2]:
                    body = thing[1]
                    room, last, end, tries, failed = body[5]
                    self.assertEqual(tag, body[6][room if end is None or tries == 2 else 1 - room][0])
                    ran_tags.add((body[0], tag))
                else:
                    self.assertIsNone(tag)
        self.assertEqual(ran_tags, {("far", TAGS["app"]), ("far", TAGS["web"]), ("near", TAGS["old"]), ("near", TAGS["web"])})

    def test_ran_of_all_else(self):
        house = rolled()
        machine = join(house)
        house.hear(machine.report(4), 4)
        log = house.log()
        number = len(log) - 1
        report, paper = log.things()[number], log.paper(number)
        self.assertEqual(ran(log.head(), KEY, number, report, paper), TAGS["app"])
        for thing in things():
            if repr(thing) != repr(number):
                self.assertIsNone(unchanged(ran, log.head(), KEY, thing, report, paper), thing)
            self.assertIsNone(unchanged(ran, log.head(), KEY, number, thing, paper))
            self.assertIsNone(unchanged(ran, log.head(), KEY, number, report, thing))
        self.assertIsNone(ran(log.head(), KEY + 1, number, report, paper))
        self.assertIsNone(ran(log.head(), KEY, number - 1, report, paper))
        self.assertIsNone(ran(log.head(), KEY, number, machine.report(5), paper))
        self.assertIsNone(ran(log.head(count=number), KEY, number, report, paper))
        for thing in changed_once(report, as_list) + changed_once(report, more_or_fewer):
            self.assertIsNone(ran(log.head(), KEY, number, thing, paper))
        self.assertIsNone(ran(log.head(), KEY, 0, log.things()[0], log.paper(0)))

    def test_a_truth_in_the_place_of_a_number(self):
        log = Log()
        report = made().report(1)
        number = log.add(report)
        kind, body, mark = report
        self.assertEqual(ran(log.head(), KEY, number, report, []), TAGS["app"])
        wrong = (kind, body[:2] + (True,) + body[3:], mark)
        self.assertEqual(wrong, report)
        self.assertIsNone(ran(log.head(), KEY, number, wrong, []))
        self.assertIsNone(ran(log.head(), KEY, False, report, []))


class Copies(unittest.TestCase):
    def lived(self):
        """A house amid a roll-out, with its machines."""
        house = rolled("web", ((1, 2, 0),), span=6)
        machines = [join(house), join(house, "near", ring=1, behind="far", key=10)]
        new_charter(house, 4)
        bring(house, machines[0], 3)
        house.letters("near", 4)
        publish(house, 2)
        return house, machines

    def test_it_stands_alike(self):
        house, machines = self.lived()
        other = asked(house.copy)
        self.assertIs(type(other), House)
        self.assertEqual(stands(other, 9), stands(house, 9))
        self.assertEqual(shown(other), shown(house))

    def test_it_goes_its_own_way(self):
        house, machines = self.lived()
        deeds = [
            lambda house: house.add_build("more", (("f", ()),)), lambda house: house.stop(9), lambda house: house.roll("new", 9),
            lambda house: new_charter(house, 5), lambda house: publish(house, 8), lambda house: house.letters("near", 9),
            lambda house: house.letters("far", 9), lambda house: house.hear(machines[0].report(9), 9),
            lambda house: join(house, "third", key=11, behind="near"), lambda house: house.hear(machines[1].report(9), 9),
        ]
        for deed in deeds:
            before = shown(house)
            other, third = house.copy(), house.copy()
            deed(other)
            self.assertEqual(shown(house), before)
            self.assertNotEqual(shown(other), before)
            # And the other way about.
            again = house.copy()
            deed(house)
            self.assertEqual(shown(again), before)
            self.assertEqual(shown(third), before)
            self.assertEqual(shown(house), shown(other))
            house = third

    def test_all_goes_on_alike(self):
        house, machines = self.lived()
        other, others = house.copy(), [machine.copy() for machine in machines]
        for moment in range(5, 30, 2):
            for machine, again in zip(machines, others):
                self.assertEqual(round_of(house, machine, moment), round_of(other, again, moment))
                self.assertEqual(machine, again)
        self.assertEqual(house.log(), other.log())
        self.assertEqual([machine.runs() for machine in machines], [TAGS["web"]] * 2)


class Asking(unittest.TestCase):
    def test_asking_does_nothing(self):
        house = rolled("web", ((1, 0, 0),))
        machine = join(house)
        join(house, "near", ring=1, behind="far")
        house.letters("far", 0)
        for ask, handed in (
            (house.is_open, (1, 5)), (house.is_wanted, ("far", 5)), (house.last_end, ("web",)), (house.can_run, ("far", 5)),
            (house.can_ever, ("far", 5)), (house.shows, ("far", TAGS["app"], 5)), (house.sure, (5,)), (house.log, ()), (house.copy, ()),
        ):
            self.assertEqual(shown(asked(ask, *handed)), shown(asked(ask, *handed)))
        for ask in (
            lambda: house.can_run("far", 5), lambda: house.can_ever("far", 5), lambda: house.sure(5), lambda: house.letters("far", 5),
            lambda: house.letters("near", 5),
        ):
            first = ask()
            again = list(first)
            first.append("more")
            self.assertEqual(ask(), again)
        self.assertEqual(take_all(machine, house.letters("far", 5), 5), ["taken", "taken"])
