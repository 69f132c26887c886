"""Points 28 to 30, of one machine: what it can run at a moment, can ever run, and histories that show it."""

import copy
import random
import unittest

from farbuilds.errors import NoWay
from farbuilds.known import can_ever, can_run, told_cells, way_to
from farbuilds.least import least
from farbuilds.machine import Machine, opened
from tests.helpers import refusal, things, unchanged
from tests.histories import all_that_can_run, is_history, played
from tests.makers import (
    ANY, BUILDS, CHARTER, FACTS, HOLDERS, KEY, ROWS, SMALL, SMALL_ROWS, SMALL_TAGS, TAGS, charter_letter, held, items_letter,
    list_letter, listed, made, marks_by, permit_letter, standing_so, trial,
)

LAST = 10 ** 9


def runs_at(machine, given, moment, since=0):
    return unchanged(can_run, "far", FACTS, machine.cells(), since, given, moment)


class Cases(unittest.TestCase):
    def holds(self, machine, given, names, moment=LAST, since=0):
        """It can run just these at the moment, each by a history; and all of them are found by going through all."""
        tags = sorted(TAGS[name] for name in names)
        told = runs_at(machine, given, moment, since)
        self.assertEqual(told, tags)
        self.assertIs(type(told), list)
        for tag in tags:
            deeds = unchanged(way_to, "far", FACTS, machine.cells(), since, given, tag, moment)
            self.assertTrue(is_history(deeds, since, given, moment), deeds)
            end = played(machine, deeds)
            self.assertEqual((end.is_on(), end.runs()), (True, tag))
        for name in set(TAGS) - set(names):
            error = refusal(NoWay, way_to, "far", FACTS, machine.cells(), since, given, TAGS[name], moment)
            self.assertEqual(error.tag, TAGS[name])
        if moment == LAST:
            self.assertEqual(can_ever("far", FACTS, machine.cells(), since, given), tags)

    def test_without_letters(self):
        self.holds(made(), [], ["app"])
        self.holds(made(), [], ["app"], 0)
        self.holds(standing_so((1, 3, None, 0, (TAGS["app"],)), (held("app"), held("web"))), [], ["web"])

    def test_all_that_it_needs_and_one_letter_fewer(self):
        given = [(list_letter(1), 0), (items_letter("web", "app"), 0), (permit_letter(1, "web", 50), 0)]
        self.holds(made(), given, ["app", "web"])
        self.holds(made(), given, ["app", "web"], 0)
        self.holds(made(), given[::-1], ["app", "web"])
        for nth in range(3):
            self.holds(made(), given[:nth] + given[nth + 1:], ["app"])

    def test_moments_of_giving(self):
        given = [(list_letter(1), 3), (items_letter("web", "app"), 7), (permit_letter(1, "web", 50), 5)]
        for moment in range(10):
            self.holds(made(), given, ["app", "web"] if moment >= 7 else ["app"], moment)
        self.holds(made(), given, ["app", "web"], 50, since=50)
        self.holds(made(), given, ["app"], 60, since=51)
        self.holds(made(), given[:2] + [(permit_letter(1, "web", 6), 5)], ["app"])
        self.holds(made(), given[:2] + [(permit_letter(1, "web", 7), 5)], ["app", "web"])

    def test_the_lists_end(self):
        for until, names in ((6, ["app"]), (7, ["app", "web"])):
            given = [(list_letter(1, until), 0), (items_letter("web", "app"), 0), (permit_letter(1, "web", 50), 7)]
            self.holds(made(), given, names)

    def test_what_the_machine_has_already(self):
        listing = listed(4, 100, ("web",))
        machine = standing_so((0, 6, None, 0, ()), (held("app"), held("web")), listing)
        self.holds(machine, [(permit_letter(7, "web"), 0)], ["app", "web"])
        self.holds(machine, [(permit_letter(6, "web"), 0)], ["app"])
        self.holds(machine, [(permit_letter(7, "web", machine="near"), 0)], ["app"])
        self.holds(machine, [(permit_letter(7, "web", by=HOLDERS[:1]), 0)], ["app"])
        self.holds(machine, [(permit_letter(7, "new"), 0)], ["app"])
        failed = standing_so((0, 6, None, 0, (TAGS["web"],)), (held("app"), held("web")), listing)
        self.holds(failed, [(permit_letter(7, "web"), 0)], ["app"])
        half = standing_so((0, 6, None, 0, ()), (held("app"), held("web", 4)), listing)
        self.holds(half, [(permit_letter(7, "web"), 0)], ["app"])
        self.holds(half, [(permit_letter(7, "web"), 0), (items_letter("web", "app", 4), 0)], ["app", "web"])
        self.holds(half, [(permit_letter(7, "web"), 0), (items_letter("web", "app", 3), 0)], ["app"])

    def test_rules(self):
        for rule, names in ((("least", "disk", 5), ["app", "web"]), (("least", "disk", 6), ["app"])):
            given = [(list_letter(1, rule=rule), 0), (items_letter("web", "app"), 0), (permit_letter(1, "web"), 0)]
            self.holds(made(), given, names)

    def test_a_letter_cut_where_another_one_goes_on(self):
        # The first letter writes all six, by wrong items from a place on; cut there, the other one puts it right.
        for at in range(1, 6):
            wrong = ("items", TAGS["web"], TAGS["app"], 0, (("new", ROWS["web"][:at] + ("q",) * (6 - at)),))
            given = [(list_letter(1), 0), (wrong, 0), (permit_letter(1, "web"), 0)]
            self.holds(made(), given, ["app"])
            for other in range(1, 6):
                names = ["app", "web"] if other <= at else ["app"]
                self.holds(made(), given + [(items_letter("web", "app", other), 0)], names)

    def test_on_from_what_was_begun_of_another_base(self):
        # web is begun from app, and its rest comes only where new runs.
        given = [
            (list_letter(1), 0), (items_letter("new", "app"), 0), (permit_letter(1, "new"), 0), (items_letter("web", "new", to=2), 0),
            (items_letter("web", "app", 2), 0), (permit_letter(2, "web"), 0),
        ]
        self.holds(made(), given, ["app", "new"])
        self.holds(made(), given + [(items_letter("web", "new", 2), 0)], ["app", "new", "web"])

    def test_back_again_needs_no_items(self):
        given = [(list_letter(1), 0), (items_letter("web", "app"), 0), (permit_letter(1, "web"), 0), (permit_letter(2, "app"), 0),
                 (items_letter("new", "app"), 0), (permit_letter(3, "new"), 0)]
        self.holds(made(), given, ["app", "web", "new"])
        machine = trial(1)
        machine.well()
        self.holds(machine, [], ["web"])
        self.holds(machine, [(permit_letter(2, "app"), 0)], ["web", "app"])
        self.holds(machine, [(permit_letter(2, "app"), 0), (permit_letter(1, "web"), 0)], ["web", "app"])

    def test_permits_in_their_order_alone(self):
        steps = [(list_letter(1), 0), (items_letter("web", "app"), 0), (items_letter("new", "web"), 0)]
        self.holds(made(), steps + [(permit_letter(1, "web"), 0), (permit_letter(2, "new"), 0)], ["app", "web", "new"])
        self.holds(made(), steps + [(permit_letter(2, "web"), 0), (permit_letter(1, "new"), 0)], ["app", "web"])
        self.holds(made(), steps + [(permit_letter(2, "web"), 0), (permit_letter(2, "new"), 0)], ["app", "web"])

    def test_charters_in_their_order(self):
        new = tuple((name, key + 100) for name, key in HOLDERS)
        charter = (charter_letter(4, new, by=HOLDERS + new), 0)
        items = (items_letter("web", "app"), 0)
        old_list, new_list = (list_letter(1), 0), (list_letter(1, by=new), 0)
        old_permit, new_permit = (permit_letter(1, "web"), 0), (permit_letter(1, "web", by=new), 0)
        for given, names in (
            ([items, old_list, old_permit], ["app", "web"]), ([items, new_list, old_permit], ["app"]),
            ([items, old_list, new_permit], ["app"]), ([items, charter, old_list, old_permit], ["app", "web"]),
            # The list is taken ahead of the new charter, the permit behind it; the other way about it can't be.
            ([items, charter, old_list, new_permit], ["app", "web"]), ([items, charter, new_list, new_permit], ["app", "web"]),
            ([items, charter, new_list, old_permit], ["app"]),
            ([items, (charter[0], 9), old_list, (permit_letter(1, "web", 8, by=new), 0)], ["app"]),
            ([items, (charter[0], 9), old_list, (permit_letter(1, "web", 9, by=new), 0)], ["app", "web"]),
        ):
            self.holds(made(), given, names)
            self.holds(made(), given[::-1], names)

    def test_chains_of_charters(self):
        third = tuple((name, key + 200) for name, key in HOLDERS)
        four, five = charter_letter(4, by=HOLDERS), charter_letter(5, third, by=HOLDERS + third)
        rest = [(items_letter("web", "app"), 0), (list_letter(1, by=third), 0), (permit_letter(1, "web", by=third), 0)]
        self.holds(made(), rest + [(five, 0), (four, 0)], ["app", "web"])
        self.holds(made(), rest + [(five, 0)], ["app"])
        self.holds(made(), rest + [(four, 0)], ["app"])

    def test_a_list_that_bars_and_one_that_does_not(self):
        items, permit = (items_letter("web", "app"), 0), (permit_letter(1, "web", 50), 20)
        none, both = list_letter(2, names=("new",)), list_letter(3)
        first = list_letter(1)
        for given, names in (
            ([items, permit, (none, 0)], ["app"]), ([items, permit, (none, 0), (both, 0)], ["app", "web"]),
            ([items, permit, (none, 0), (first, 0)], ["app", "web"]), ([items, permit, (none, 0), (list_letter(3, 19), 0)], ["app"]),
        ):
            self.holds(made(), given, names)
        machine = made()
        machine.take(none, 0)
        self.holds(machine, [items, permit, (first, 0)], ["app"])
        self.holds(machine, [items, permit, (both, 0)], ["app", "web"])

    def test_from_a_trial_on(self):
        for tries, end, since, names in (
            (2, 50, 0, ["app", "web"]), (2, 50, 50, ["app", "web"]), (2, 50, 51, ["app"]), (1, 50, 0, ["app", "web"]),
            (1, 50, 51, ["app", "web"]), (0, 50, 0, ["app", "web"]), (0, 50, 51, ["app", "web"]),
        ):
            machine = standing_so((0, 6, end, tries, ()), (held("app"), held("web")), listed(4, 1000, tuple(BUILDS)))
            self.holds(machine, [], names, since=since)
            self.holds(machine, [], names, since, since)
            # Behind the trial, failed or passed by, the room is free for another one.
            more = [(items_letter("new", "app"), 0), (permit_letter(7, "new", 1000), 0)]
            self.holds(machine, more, names + ["new"], since=since)
            again = [(permit_letter(7, "web", 1000), 0), (items_letter("new", "web"), 0), (permit_letter(8, "new", 1000), 0)]
            # Without another permit web can still be found well, where it was ever run.
            seen = set(names) | {"new"} | ({"web"} if tries > 0 else set())
            self.holds(machine, again, sorted(seen), since=since)

    def test_out_of_a_trial_ahead_of_its_end(self):
        # new comes from app alone, and only at once: web has to fail, or not be begun.
        given = [(items_letter("new", "app"), 0), (permit_letter(7, "new", 10), 0)]
        for tries in (0, 1, 2):
            machine = standing_so((0, 6, 20, tries, ()), (held("app"), held("web")), listed(4, 1000, tuple(BUILDS)))
            self.holds(machine, given, ["app", "web", "new"])
            self.holds(machine, given, ["app", "web", "new"], 10, since=10)
            self.holds(machine, given, ["app", "web"], since=11)

    def test_cut_amid_a_letter_that_goes_on_itself(self):
        # From the second item on the letter writes one right one and then wrong ones.
        half = standing_so((0, 6, None, 0, ()), (held("app"), held("web", 2)), listed(4, 1000, ("web",)))
        wrong = ("items", TAGS["web"], TAGS["app"], 2, (("new", ROWS["web"][2:3] + ("q", "q")),))
        given = [(wrong, 0), (items_letter("web", "app", 3), 0), (permit_letter(7, "web"), 0)]
        self.holds(half, given, ["app", "web"])
        self.holds(half, given[1:], ["app"])

    def test_steps_from_what_runs_and_from_what_is_begun(self):
        listing = listed(4, 1000, ("web",))
        old = ("items", TAGS["web"], TAGS["app"], 0, (("old", 0, 2), ("old", 3, 1), ("new", ("z",)), ("own", 3, 2)))
        machine = standing_so((0, 6, None, 0, ()), (held("app"), held("new")), listing)
        self.holds(machine, [(old, 0), (permit_letter(7, "web"), 0)], ["app", "web"])
        own = ("items", TAGS["web"], TAGS["app"], 4, (("own", 3, 2),))
        machine = standing_so((0, 6, None, 0, ()), (held("app"), held("web", 4)), listing)
        self.holds(machine, [(own, 0), (permit_letter(7, "web"), 0)], ["app", "web"])
        self.holds(made(), [(own, 0), (permit_letter(7, "web"), 0), (list_letter(1), 0)], ["app"])

    def test_later_by_a_lesser_permit(self):
        # By the permit of 0 web is run earlier, but then that of new is old.
        given = [
            (list_letter(1), 0), (items_letter("web", "app"), 0), (items_letter("new", "web"), 0), (permit_letter(5, "web"), 0),
            (permit_letter(2, "web", 30), 10), (permit_letter(3, "new"), 20),
        ]
        self.holds(made(), given, ["app", "web", "new"])
        self.holds(made(), given[:4] + given[5:], ["app", "web"])

    def test_later_by_the_charter_ahead(self):
        new = tuple((name, key + 100) for name, key in HOLDERS)
        given = [
            (list_letter(1), 0), (items_letter("web", "app"), 0), (items_letter("new", "web"), 0),
            (charter_letter(4, new, by=HOLDERS + new), 0), (permit_letter(1, "web", by=new), 0), (permit_letter(2, "web"), 10),
            (permit_letter(3, "new"), 20),
        ]
        self.holds(made(), given, ["app", "web", "new"])
        self.holds(made(), given[:5] + given[6:], ["app", "web"])

    def test_later_by_the_list_ahead(self):
        given = [
            (list_letter(2, names=("web",)), 0), (items_letter("web", "app"), 0), (items_letter("new", "web"), 0),
            (permit_letter(1, "web", 5), 0), (list_letter(1), 10), (permit_letter(2, "web"), 10), (permit_letter(3, "new"), 20),
        ]
        self.holds(made(), given, ["app", "web", "new"])
        self.holds(made(), given[:5] + given[6:], ["app", "web"])

    def test_later_by_a_list_that_only_the_charter_ahead_lets(self):
        new = tuple((name, key + 100) for name, key in HOLDERS)
        machine = standing_so((0, 0, None, 0, ()), (held("app"), held("web")), listed(1, 1000, ("web",)))
        given = [
            (charter_letter(4, new, by=HOLDERS + new), 0), (permit_letter(1, "web", 5, by=new), 0), (items_letter("new", "web"), 0),
            (list_letter(2, names=("new", "web")), 10), (permit_letter(2, "web", by=new), 10), (permit_letter(3, "new", by=new), 20),
        ]
        self.holds(machine, given, ["app", "web", "new"])
        self.holds(machine, given[:4] + given[5:], ["app", "web"])

    def test_later_by_a_list_that_is_past_but_bars_less(self):
        given = [
            (list_letter(3, names=("web",)), 0), (items_letter("web", "app"), 0), (permit_letter(1, "web", 0), 0),
            (list_letter(1, 10, names=("web",)), 5), (permit_letter(2, "web", 5), 5), (items_letter("new", "web"), 20),
            (list_letter(2, names=("new",)), 30), (permit_letter(3, "new", 40), 30),
        ]
        self.holds(made(), given, ["app", "web", "new"])
        self.holds(made(), given[:4] + given[5:], ["app", "web"])

    def test_another_list_of_the_same_number(self):
        machine = standing_so((0, 0, None, 0, ()), (held("app"), held("web")), listed(2, 1000, ("new",)))
        for number, names in ((1, ["app"]), (2, ["app"]), (3, ["app", "web"])):
            self.holds(machine, [(list_letter(number), 0), (permit_letter(1, "web"), 0)], names)

    def test_the_same_charter_or_list_by_two_letters(self):
        new = tuple((name, key + 100) for name, key in HOLDERS)
        late, early = (charter_letter(4, new, by=HOLDERS + new), 20), (charter_letter(4, new, by=new + HOLDERS), 0)
        self.assertNotEqual(late[0], early[0])
        rest = [(items_letter("web", "app"), 0), (list_letter(1, by=new), 0), (permit_letter(1, "web", 5, by=new), 0)]
        for given, names in (
            ([late] + rest, ["app"]), ([late, early] + rest, ["app", "web"]), ([early, late] + rest, ["app", "web"]),
        ):
            self.holds(made(), given, names)
        late, early = (list_letter(1), 20), (list_letter(1, by=HOLDERS[:2]), 0)
        rest = [(items_letter("web", "app"), 0), (permit_letter(1, "web", 5), 0)]
        for given, names in (
            ([late] + rest, ["app"]), ([late, early] + rest, ["app", "web"]), ([early, late] + rest, ["app", "web"]),
        ):
            self.holds(made(), given, names)

    def test_no_trial_goes_on_for_ever(self):
        given = [(list_letter(1), 0), (items_letter("web", "app"), 0), (permit_letter(1, "web", LAST), 0)]
        self.holds(made(), given, ["app", "web"])
        self.holds(standing_so((0, 6, LAST, 2, ()), (held("app"), held("web"))), [], ["app", "web"])

    def test_no_way_of_anything(self):
        machine = made()
        for thing in things() + [("app", 4), TAGS["app"] + (1,), list(TAGS["app"]), TAGS["web"]]:
            error = refusal(NoWay, way_to, "far", FACTS, machine.cells(), 0, [], thing, 5)
            self.assertEqual(repr(error.tag), repr(thing))

    def test_no_way_of_a_tag_with_a_truth_in_it(self):
        name, size, total = TAGS["new"]
        self.assertEqual(size, 1)
        machine = made(title="new")
        self.assertEqual(way_to("far", FACTS, machine.cells(), 0, [], TAGS["new"], 5), [])
        self.assertIs(refusal(NoWay, way_to, "far", FACTS, machine.cells(), 0, [], (name, True, total), 5).tag[1], True)

    def test_lists_are_the_askers_own(self):
        given = [(list_letter(1), 0), (items_letter("web", "app"), 0), (permit_letter(1, "web", 50), 0)]
        for ask in (
            lambda: can_run("far", FACTS, made().cells(), 0, given, 9), lambda: can_ever("far", FACTS, made().cells(), 0, given),
            lambda: way_to("far", FACTS, made().cells(), 0, given, TAGS["web"], 9),
        ):
            first = ask()
            again = copy.deepcopy(first)
            first.clear()
            self.assertEqual(ask(), again)


class Reported(unittest.TestCase):
    """A report tells all that deeds go by."""

    def test_cells_of_a_report(self):
        rows = {TAGS[name]: ROWS[name] for name in BUILDS}
        half = made()
        half.take(items_letter("web", "app", to=3), 0)
        for machine in (made(), half, trial(2), trial(1), trial(0)):
            charters, lists = {3: CHARTER, 2: None}, {1: list_letter(1)[1], 2: None}
            cells = unchanged(told_cells, machine.report(5), charters, lists, rows)
            self.assertEqual((cells[0], cells[2]), (machine.cells()[0], machine.cells()[2]))
            other = opened("far", KEY, FACTS, cells)
            self.assertEqual((other.charter(), other.listing(), other.boot()), (machine.charter(), machine.listing(), machine.boot()))
            self.assertEqual(other.start(7), machine.start(7))
            self.assertEqual(other.report(9), machine.report(9))

    def test_a_strange_charter_lets_nothing(self):
        machine = made()
        cells = told_cells(machine.report(5), {}, {}, {TAGS["app"]: ROWS["app"]})
        self.assertEqual(opened("far", KEY, FACTS, cells).charter()[:2], (3, ()))
        given = [(charter_letter(4), 0), (list_letter(1), 0), (items_letter("web", "app"), 0), (permit_letter(1, "web"), 0)]
        self.assertEqual(can_ever("far", FACTS, cells, 5, given), [TAGS["app"]])

    def test_a_room_with_a_strange_tag(self):
        machine = made()
        machine.take(items_letter("web", "app"), 0)
        cells = told_cells(machine.report(5), {3: CHARTER}, {}, {TAGS["app"]: ROWS["app"]})
        self.assertEqual(cells[2], (held("app"), (TAGS["web"], ())))


class Drawn(unittest.TestCase):
    def test_against_a_going_through_all_histories(self):
        many = {}
        for seed in range(45):
            draw = random.Random(seed)
            machine, since, given = drawn(draw)
            for last in (since + draw.randrange(15), LAST):
                tags = sorted(all_that_can_run(machine, since, given, last))
                self.assertEqual(runs_at(machine, given, last, since), tags, (seed, given))
                many[len(tags)] = many.get(len(tags), 0) + 1
                for tag in tags:
                    deeds = way_to("far", FACTS, machine.cells(), since, given, tag, last)
                    self.assertTrue(is_history(deeds, since, given, last), deeds)
                    end = played(machine, deeds)
                    self.assertEqual((end.is_on(), end.runs()), (True, tag))
        self.assertGreater(many[2], 20)
        self.assertGreater(many[3], 3)

    def test_thirty_letters_are_soon_gone_through(self):
        draw = random.Random(30)
        given = [(charter_letter(number), draw.randrange(20)) for number in range(4, 9)]
        given += [(list_letter(number, draw.choice((50, 1000))), draw.randrange(20)) for number in range(1, 6)]
        pairs = [(name, base) for name in BUILDS for base in BUILDS if name != base]
        given += [(items_letter(name, base), draw.randrange(20)) for name, base in draw.sample(pairs, 10)]
        given += [(permit_letter(number, draw.choice(tuple(BUILDS)), number + 40), number) for number in range(1, 11)]
        self.assertEqual(len(given), 30)
        tags = runs_at(made(), given, LAST)
        for tag in tags:
            self.assertEqual(played(made(), way_to("far", FACTS, made().cells(), 0, given, tag, LAST)).runs(), tag)
        self.assertGreater(len(tags), 2)


def drawn(draw):
    """A machine behind some deeds, the moment by then, and letters, most of them such as lead on."""
    hard = draw.choice((0.05, 0.15, 0.3))
    machine = Machine("far", KEY, FACTS, CHARTER, "app", SMALL["app"])
    names = ["app"] + draw.sample(["web", "new", "old"], draw.choice((1, 2, 2)))
    charters, given = [CHARTER], []
    for number in range(4, 4 + draw.choice((0, 0, 1, 2))):
        holders = tuple((name, key if draw.random() < 0.6 else key + 100) for name, key in charters[-1][1])
        letter = charter_letter(number, holders, by=charters[-1][1] + holders)
        charters.append(letter[1])
        given.append((letter, draw.choice((0, 0, 5))))

    def marks(kind, thing):
        known = [charter for charter in charters if draw.random() > hard + 0.2] or [draw.choice(charters)]
        return (kind, thing, marks_by([holder for charter in known for holder in charter[1]], kind, thing))

    for number in range(1, draw.choice((2, 3))):
        rule = ANY if draw.random() > hard else ("least", "disk", 6)
        entries = tuple(SMALL_TAGS[name] + (0, rule) for name in sorted(names) if draw.random() > hard / 2)
        given.append((marks("list", (number, draw.choice((5, 15, 100, 100)), entries)), draw.choice((0, 0, 8))))
    wanted = drawn_items(draw, names, given, hard)
    moment = 0
    for number, name in enumerate(wanted + [draw.choice(wanted + ["app"])], 1):
        moment += draw.choice((0, 0, 1, 4))
        permit = (number if draw.random() > hard else 1, "far", name, moment + draw.choice((0, 1, 3, 10, 30)))
        given.append((marks("permit", permit), moment))
    return behind_some(draw, machine, given) + (given,)


def drawn_items(draw, names, given, hard):
    """Letters of items along a way from build to build; the builds of this way are told."""
    runs, wanted = "app", []
    for time in range(draw.choice((1, 1, 2))):
        name = draw.choice([name for name in names if name != runs])
        base = runs if draw.random() > hard else draw.choice([other for other in names if other != name])
        row, moment = SMALL_ROWS[name], draw.choice((0, 0, 6))
        at = draw.choice((0, 0, len(row) - 1))
        if at:
            first = ("items", SMALL_TAGS[name], SMALL_TAGS[base], 0, (("new", row[:draw.choice((at, len(row)))]),))
            given.append((first, moment))
        given.append((("items", SMALL_TAGS[name], SMALL_TAGS[base], at, least(SMALL_ROWS[base], row, start=at)[1]), moment))
        wanted.append(name)
        runs = name if draw.random() < 0.7 else runs
    return wanted


def behind_some(draw, machine, given):
    """The machine behind some deeds, on, and the moment by then."""
    moment = 0
    for time in range(draw.choice((0, 0, 6, 15))):
        letters = [letter for letter, since in given if since <= moment]
        if not machine.is_on() or draw.random() < 0.3:
            machine.start(moment, writes=draw.choice((None, None, 0)))
        elif draw.random() < 0.1:
            machine.well()
        elif letters:
            for letter in letters[draw.randrange(len(letters)):]:
                if machine.is_on():
                    machine.take(letter, moment, writes=draw.choice((None, None, None, 0, 1, 2)))
        moment += draw.choice((0, 0, 0, 1, 2))
    if not machine.is_on():
        machine.start(moment)
    return machine, moment
