"""Points 15 to 19: a machine, its cells, writes, cuts, what runs, starts and findings."""

import copy
import itertools
import unittest

from farbuilds.errors import Off
from farbuilds.machine import Machine, opened
from tests.helpers import refusal, things, unchanged
from tests.makers import (
    BUILDS, CHARTER, EMPTY, FACTS, HOLDERS, KEY, ROWS, TAGS, cells_of, charter_letter, held, items_letter, list_letter,
    listed, made, permit_letter, standing_so, switched_on, trial,
)

FIRST_BOOT = (0, 0, None, 0, ())
FIRST = (0, ((1, CHARTER, None, FIRST_BOOT), None), (held("app"), EMPTY))


class Made(unittest.TestCase):
    def test_all_that_it_tells(self):
        machine = made()
        self.assertEqual(machine.cells(), FIRST)
        self.assertIs(machine.is_on(), True)
        self.assertEqual(machine.runs(), TAGS["app"])
        self.assertEqual(machine.running_row(), ROWS["app"])
        self.assertEqual(machine.charter(), CHARTER)
        self.assertIsNone(machine.listing())
        self.assertEqual(machine.boot(), FIRST_BOOT)

    def test_what_is_handed_in_stays(self):
        for seen in (None, lambda word: None):
            unchanged(lambda facts, charter, build: Machine("far", KEY, facts, charter, "app", build, seen=seen),
                      dict(FACTS), CHARTER, BUILDS["app"])
        unchanged(opened, "far", KEY, dict(FACTS), FIRST)

    def test_facts_changed_behind(self):
        rule = ("is", "os", "linux")
        for make in (lambda facts: made(facts=facts), lambda facts: opened("far", KEY, facts, FIRST),
                     lambda facts: opened("far", KEY, facts, FIRST).copy()):
            facts = dict(FACTS)
            machine = make(facts)
            machine.start(0)
            facts["os"] = "bsd"
            facts["more"] = 1
            self.assertEqual(machine, made(facts=FACTS))
            for letter in (list_letter(1, rule=rule), items_letter("web", "app"), permit_letter(1, "web")):
                self.assertEqual(machine.take(letter, 0), "taken")

    def test_kinds_of_what_is_told(self):
        machine = trial(1)
        writes, marks, rooms = machine.cells()
        self.assertEqual([type(part) for part in (writes, marks, rooms)], [int, tuple, tuple])
        self.assertEqual([type(room) for room in rooms] + [type(items) for tag, items in rooms], [tuple] * 4)
        self.assertEqual([type(mark) for mark in marks], [tuple] * 2)
        self.assertIs(type(machine.running_row()), tuple)
        self.assertIsNone(machine.off())
        self.assertIs(machine.is_on(), False)


class Opened(unittest.TestCase):
    def test_off_and_alike_when_started(self):
        for machine in (made(), trial(2), trial(1), standing_so(FIRST_BOOT, (held("app"), held("web", 2)))):
            machine.off()
            other = opened("far", KEY, FACTS, machine.cells())
            self.assertIs(other.is_on(), False)
            self.assertIsNone(other.runs())
            self.assertEqual(other.cells(), machine.cells())
            self.assertEqual(other, machine)
            self.assertEqual(other.start(3), machine.start(3))
            self.assertEqual(other, machine)
            self.assertEqual((other.charter(), other.listing(), other.boot()), (machine.charter(), machine.listing(), machine.boot()))
            self.assertEqual(other.running_row(), machine.running_row())
            self.assertEqual(other.report(4), machine.report(4))

    def test_of_any_cells(self):
        for marks in itertools.permutations(((4, CHARTER, None, FIRST_BOOT), (5, CHARTER, listed(1, 9, ("web",)), (1, 3, None, 0, ())))):
            cells = (10 ** 20, marks, (held("app"), held("web")))
            machine = opened("far", KEY, FACTS, cells)
            self.assertEqual(machine.cells(), cells)
            self.assertEqual(machine.start(0), TAGS["web"])
            self.assertEqual(machine.boot(), (1, 3, None, 0, ()))
            self.assertEqual(machine.listing(), listed(1, 9, ("web",)))


class Copies(unittest.TestCase):
    def machines(self):
        off = trial(1)
        off.off()
        return [made(), trial(2), trial(1), trial(0), off]

    def test_equal_and_going_their_own_way(self):
        for machine in self.machines():
            other = machine.copy()
            self.assertIsInstance(other, Machine)
            self.assertTrue(machine == other and not machine != other)
            self.assertEqual(other.is_on(), machine.is_on())
            before = machine.cells()
            other.start(0)
            other.take(charter_letter(4), 0)
            self.assertEqual(machine.cells(), before)
            self.assertNotEqual(machine, other)
            again = machine.copy()
            cells = again.cells()
            machine.start(0)
            machine.take(charter_letter(4), 0)
            self.assertEqual(again.cells(), cells)
            self.assertEqual(machine, other)

    def test_a_copy_calls_no_def(self):
        calls = []
        machine = trial(2, seen=calls.append)
        many = len(calls)
        other = machine.copy()
        self.assertEqual(other, machine)
        other.start(0)
        other.well()
        self.assertEqual(len(calls), many)
        machine.start(0)
        self.assertEqual(calls[many:], ["mark"])

    def test_a_copy_of_one_that_refuses(self):
        def seen(word):
            raise ValueError(word)

        machine = made(seen=seen)
        self.assertEqual(machine.copy().take(charter_letter(4), 0), "taken")
        self.assertIsNotNone(refusal(ValueError, machine.take, charter_letter(4), 0))

    def test_unequal_where_one_thing_is_otherwise(self):
        cells = trial(1).cells()
        writes, marks, rooms = cells
        machine = opened("far", KEY, FACTS, cells)
        others = [
            opened("near", KEY, FACTS, cells), opened("far", KEY + 1, FACTS, cells), opened("far", KEY, {}, cells),
            opened("far", KEY, {"os": "linux", "disk": 6}, cells), opened("far", KEY, {**FACTS, "more": 1}, cells),
            opened("far", KEY, FACTS, (writes + 1, marks, rooms)), opened("far", KEY, FACTS, (writes, (marks[0], None), rooms)),
            opened("far", KEY, FACTS, (writes, marks, (rooms[0], EMPTY))),
            opened("far", KEY, FACTS, (writes, marks, (rooms[0], (rooms[1][0], rooms[1][1][:-1])))),
            opened("far", KEY, FACTS, (writes, ((99,) + marks[0][1:], marks[1]), rooms)),
        ]
        self.assertTrue(machine == opened("far", KEY, FACTS, cells))
        for other in others:
            self.assertTrue(machine != other and not machine == other)
        on = switched_on(cells)
        self.assertTrue(on != machine and not on == machine)

    def test_on_and_off(self):
        machine, other = made(), made()
        other.off()
        self.assertNotEqual(machine, other)
        machine.off()
        self.assertEqual(machine, other)
        other.start(0)
        self.assertNotEqual(machine, other)

    def test_equal_whatever_seen_is(self):
        self.assertEqual(made(seen=len), made())

    def test_equal_to_nothing_else(self):
        for thing in things() + [made().cells(), made().report(0), object(), Machine, ("far", KEY)]:
            self.assertIs(made() == thing, False)
            self.assertIs(made() != thing, True)
            self.assertIs(thing == made(), False)


def deeds():
    """Each deed that writes: a machine, the deed, what it tells when done, and the cells behind each write."""
    found = []
    for prepare, deed, told, words in (
        (made, lambda machine, **cut: machine.take(charter_letter(4), 0, **cut), "taken", ["mark"]),
        (made, lambda machine, **cut: machine.take(list_letter(1), 0, **cut), "taken", ["mark"]),
        (made, lambda machine, **cut: machine.take(items_letter("web", "app"), 0, **cut), "taken", ["tag"] + ["item"] * 6),
        (made, lambda machine, **cut: machine.take(items_letter("web", "app", 0, ()), 0, **cut), "taken", ["tag"]),
        (lambda **made_by: half(**made_by), lambda machine, **cut: machine.take(items_letter("web", "app", 2), 0, **cut), "taken",
         ["item"] * 4),
        (lambda **made_by: half(**made_by), lambda machine, **cut: machine.take(items_letter("old", "app"), 0, **cut), "taken",
         ["tag"] + ["item"] * 3),
        (lambda **made_by: half(**made_by), lambda machine, **cut: machine.take(items_letter("web", "app", 2, ()), 0, **cut), "taken", []),
        (lambda **made_by: ready(**made_by), lambda machine, **cut: machine.take(permit_letter(1, "web"), 0, **cut), "taken", ["mark"]),
        (lambda **made_by: trial(2, **made_by), lambda machine, **cut: machine.start(0, **cut), TAGS["web"], ["mark"]),
        (lambda **made_by: trial(1, **made_by), lambda machine, **cut: machine.start(0, **cut), TAGS["web"], ["mark"]),
        (lambda **made_by: trial(0, **made_by), lambda machine, **cut: machine.start(0, **cut), TAGS["app"], ["mark"]),
        (lambda **made_by: trial(2, **made_by), lambda machine, **cut: machine.start(1001, **cut), TAGS["app"], ["mark"]),
        (made, lambda machine, **cut: machine.start(0, **cut), TAGS["app"], []),
        (lambda **made_by: trial(1, **made_by), lambda machine, **cut: machine.well(**cut), True, ["mark"]),
        (lambda **made_by: trial(2, **made_by), lambda machine, **cut: machine.well(**cut), False, []),
        (made, lambda machine, **cut: machine.take(list_letter(1, by=()), 0, **cut), "unmarked", []),
        (made, lambda machine, **cut: machine.take(None, 0, **cut), "strange", []),
    ):
        found.append((prepare, deed, told, words))
    return found


def half(seen=None):
    machine = made(seen=seen)
    machine.take(items_letter("web", "app", to=2), 0)
    return machine


def ready(seen=None):
    machine = made(seen=seen)
    machine.take(list_letter(1), 0)
    machine.take(items_letter("web", "app"), 0)
    return machine


def turn_of(mark):
    return 0 if mark is None else mark[0]


class Writes(unittest.TestCase):
    def behind(self, prepare, deed, words):
        """The cells ahead of a deed and behind each of its writes, as one of them after the other is let."""
        rows = []
        for writes in range(len(words) + 1):
            machine = prepare()
            deed(machine, writes=writes)
            rows.append(machine.cells())
        return rows

    def test_each_write_sets_one_cell(self):
        for prepare, deed, told, words in deeds():
            rows = self.behind(prepare, deed, words)
            self.assertEqual(rows[0], prepare().cells())
            for word, ahead, cells in zip(words, rows, rows[1:]):
                self.assertEqual(cells[0], ahead[0] + 1)
                changed = [place for place in ((1, 0), (1, 1), (2, 0), (2, 1)) if cells[place[0]][place[1]] != ahead[place[0]][place[1]]]
                self.assertEqual(len(changed), 1)
                part, place = changed[0]
                now, before = cells[part][place], ahead[part][place]
                if word == "mark":
                    self.assertEqual(part, 1)
                    other = ahead[1][1 - place]
                    self.assertLess(turn_of(before), turn_of(other))
                    self.assertEqual(now[0], other[0] + 1)
                    self.assertEqual(sum(one != two for one, two in zip(now[1:], other[1:])), 1)
                else:
                    self.assertEqual((part, place), (2, 1))
                    if word == "tag":
                        self.assertEqual(now[1], ())
                    else:
                        self.assertEqual((now[0], now[1][:-1]), before)

    def test_cut_at_each_write_and_beyond(self):
        for prepare, deed, told, words in deeds():
            rows = self.behind(prepare, deed, words)
            for writes in range(len(words) + 3):
                machine = prepare()
                answer = deed(machine, writes=writes)
                whole = writes >= len(words)
                self.assertEqual(answer, told if whole else None)
                self.assertIs(type(answer), type(told) if whole else type(None))
                self.assertIs(machine.is_on(), whole)
                self.assertEqual(machine.cells(), rows[min(writes, len(words))])
                self.assertEqual(machine.runs() is None, not whole)

    def test_torn_at_each_write_and_beyond(self):
        for prepare, deed, told, words in deeds():
            rows = self.behind(prepare, deed, words)
            for writes in range(len(words) + 3):
                machine = prepare()
                answer = deed(machine, writes=writes, torn=True)
                whole = writes >= len(words)
                self.assertEqual(answer, told if whole else None)
                self.assertIs(machine.is_on(), whole)
                if whole:
                    self.assertEqual(machine.cells(), rows[-1])
                else:
                    count, marks, rooms = rows[writes]
                    if words[writes] == "mark":
                        marks = (None, marks[1]) if turn_of(marks[0]) < turn_of(marks[1]) else (marks[0], None)
                    elif words[writes] == "tag":
                        rooms = (rooms[0], EMPTY)
                    self.assertEqual(machine.cells(), (count + 1, marks, rooms))

    def test_without_writes_torn_does_nothing(self):
        for prepare, deed, told, words in deeds():
            machine, other = prepare(), prepare()
            self.assertEqual(deed(machine, torn=True), told)
            self.assertEqual(deed(other), told)
            self.assertEqual(deed(prepare(), writes=None, torn=True), told)
            self.assertEqual(machine, other)

    def test_a_torn_mark_is_written_again_behind_a_start(self):
        machine = made()
        self.assertIsNone(machine.take(list_letter(1), 0, writes=0, torn=True))
        self.assertEqual(machine.cells(), (1, FIRST[1], FIRST[2]))
        machine.start(0)
        self.assertEqual(machine.take(list_letter(1), 0), "taken")
        self.assertIsNone(machine.take(charter_letter(4), 0, writes=0, torn=True))
        writes, marks, rooms = machine.cells()
        self.assertEqual((writes, marks[0], marks[1][0]), (3, None, 2))
        self.assertEqual(machine.charter(), CHARTER)
        machine.start(0)
        self.assertEqual(machine.take(charter_letter(4), 0), "taken")
        self.assertEqual(machine.cells()[1][0][:2], (3, (4, HOLDERS, (2, 2, 2))))
        self.assertEqual(machine.listing(), list_letter(1)[1])

    def test_a_torn_tag_leaves_an_empty_room(self):
        machine = half()
        self.assertIsNone(machine.take(items_letter("old", "app"), 0, writes=0, torn=True))
        self.assertEqual(machine.cells()[2], (held("app"), EMPTY))


class Seen(unittest.TestCase):
    def test_called_ahead_of_each_write_that_is_done(self):
        for prepare, deed, told, words in deeds():
            for writes in [None] + list(range(len(words) + 2)):
                for torn in (False, True):
                    calls = []
                    looked = []
                    machine = prepare(seen=lambda word: calls.append((word, looked and looked[0].cells())))
                    looked.append(machine)
                    calls.clear()
                    deed(machine, writes=writes, torn=torn)
                    done = len(words) if writes is None else min(writes, len(words))
                    self.assertEqual([word for word, cells in calls], words[:done])
                    rows = Writes().behind(prepare, deed, words)
                    self.assertEqual([cells for word, cells in calls], rows[:done])

    def test_making_and_opening_call_nothing(self):
        calls = []
        made(seen=calls.append)
        self.assertEqual(calls, [])

    def test_a_refusal_at_each_write(self):
        for error in (ValueError, KeyError, Off, KeyboardInterrupt, Refusal):
            for prepare, deed, told, words in deeds():
                rows = Writes().behind(prepare, deed, words)
                for nth in range(len(words)):
                    left = []

                    def seen(word):
                        if left:
                            left[0] -= 1
                            if left[0] < 0:
                                raise error()

                    machine = prepare(seen=seen)
                    left.append(nth)
                    with self.assertRaises(error):
                        deed(machine)
                    self.assertEqual(machine.cells(), rows[nth])
                    self.assertIs(machine.is_on(), False)
                    self.assertIsNone(machine.runs())

    def test_the_very_refusal_comes_through(self):
        mine = Refusal("mine")

        def seen(word):
            raise mine

        with self.assertRaises(Refusal) as caught:
            made(seen=seen).take(charter_letter(4), 0)
        self.assertIs(caught.exception, mine)

    def test_a_refusal_beyond_the_writes_that_are_let_does_not_come(self):
        def seen(word):
            raise Refusal(word)

        machine = made(seen=seen)
        self.assertIsNone(machine.take(charter_letter(4), 0, writes=0))
        self.assertEqual(machine.cells(), FIRST)
        machine = made(seen=seen)
        self.assertIsNone(machine.take(charter_letter(4), 0, writes=0, torn=True))
        self.assertEqual(machine.cells(), (1,) + FIRST[1:])
        self.assertEqual(made(seen=seen).take(charter_letter(4, by=()), 0), "unmarked")
        self.assertEqual(made(seen=seen).start(0), TAGS["app"])

    def test_it_goes_on_behind_a_refusal(self):
        refusing = [True]

        def seen(word):
            if refusing[0]:
                raise Refusal(word)

        machine = made(seen=seen)
        with self.assertRaises(Refusal):
            machine.take(charter_letter(4), 0)
        refusing[0] = False
        self.assertEqual(machine.start(0), TAGS["app"])
        self.assertEqual(machine.take(charter_letter(4), 0), "taken")
        self.assertEqual(machine.cells()[0], 1)


class Refusal(Exception):
    pass


class OffAndOn(unittest.TestCase):
    def test_what_is_refused_when_off(self):
        for machine in (made(), trial(1), trial(2)):
            machine.off()
            before = machine.cells()
            for deed in (
                lambda: machine.take(charter_letter(4), 0), lambda: machine.take(None, 0), lambda: machine.well(),
                lambda: machine.take(charter_letter(4), 0, writes=0, torn=True), lambda: machine.well(writes=0, torn=True),
                machine.running_row, lambda: machine.report(0),
            ):
                self.assertIsInstance(refusal(Off, deed), Off)
                self.assertEqual(machine.cells(), before)
                self.assertIs(machine.is_on(), False)
            self.assertIsNone(machine.runs())
            self.assertIsNone(machine.off())
            self.assertEqual(machine.charter(), CHARTER)

    def test_what_runs_by_boot(self):
        rooms = (held("app"), held("web"))
        for room, end, tries in itertools.product((0, 1), (None, 0, 50), (0, 1, 2)):
            machine = switched_on(cells_of((room, 3, end, tries, ()), rooms))
            place = room if end is None or tries == 2 else 1 - room
            self.assertEqual(machine.runs(), rooms[place][0])
            self.assertEqual(machine.running_row(), rooms[place][1])


class Starts(unittest.TestCase):
    def start(self, boot, moment, on, **cut):
        cells = cells_of(boot, (held("app"), held("web")))
        machine = switched_on(cells) if on else opened("far", KEY, FACTS, cells)
        before = machine.cells()
        told = machine.start(moment, **cut)
        return machine, before, told

    def holds(self, boot, moment, then, tag):
        for on in (False, True):
            machine, before, told = self.start(boot, moment, on)
            self.assertEqual((told, machine.boot(), machine.is_on()), (tag, then, True))
            self.assertEqual(machine.runs(), tag)
            if boot == then:
                self.assertEqual(machine.cells(), before)
            else:
                turn, charter, listing, ahead = before[1][0]
                self.assertEqual(machine.cells(), (before[0] + 1, (before[1][0], (turn + 1, charter, listing, then)), before[2]))

    def test_with_no_trial(self):
        for room, moment, failed in itertools.product((0, 1), (0, 50, 10 ** 9), ((), (TAGS["old"],))):
            boot = (room, 3, None, 0, failed)
            self.holds(boot, moment, boot, TAGS[("app", "web")[room]])

    def test_with_tries_left(self):
        for room, tries, failed in itertools.product((0, 1), (1, 2), ((), (TAGS["new"], TAGS["old"]))):
            boot = (room, 3, 50, tries, failed)
            for moment in (0, 49, 50):
                self.holds(boot, moment, (room, 3, 50, tries - 1, failed), TAGS[("web", "app")[room]])
            for moment in (51, 52, 10 ** 9):
                self.holds(boot, moment, (room, 3, None, 0, failed), TAGS[("app", "web")[room]])

    def test_with_none_left(self):
        for room, moment in itertools.product((0, 1), (0, 49, 50, 51, 10 ** 9)):
            tag = TAGS[("web", "app")[room]]
            for failed in ((), (TAGS["new"],), (TAGS["new"], TAGS["old"]), (TAGS["app"], TAGS["web"]), (tag,)):
                then = (room, 3, None, 0, tuple(sorted(set(failed) | {tag})))
                self.holds((room, 3, 50, 0, failed), moment, then, TAGS[("app", "web")[room]])

    def test_a_trial_from_its_beginning(self):
        machine = trial(2, end=5)
        self.assertEqual((machine.runs(), machine.boot()), (TAGS["app"], (0, 1, 5, 2, ())))
        self.assertEqual((machine.start(5), machine.boot()), (TAGS["web"], (0, 1, 5, 1, ())))
        self.assertEqual((machine.start(5), machine.boot()), (TAGS["web"], (0, 1, 5, 0, ())))
        self.assertEqual((machine.start(5), machine.boot()), (TAGS["app"], (0, 1, None, 0, (TAGS["web"],))))
        self.assertEqual((machine.start(5), machine.boot()), (TAGS["app"], (0, 1, None, 0, (TAGS["web"],))))

    def test_at_the_last_moments(self):
        self.holds((0, 3, 10 ** 9, 1, ()), 10 ** 9, (0, 3, 10 ** 9, 0, ()), TAGS["web"])
        self.holds((0, 3, 0, 1, ()), 0, (0, 3, 0, 0, ()), TAGS["web"])
        self.holds((0, 3, 0, 1, ()), 1, (0, 3, None, 0, ()), TAGS["app"])


class Findings(unittest.TestCase):
    def test_on_trial(self):
        for tries, failed in itertools.product((0, 1), ((), (TAGS["old"],))):
            for end in (0, 1000):
                machine = switched_on(cells_of((0, 3, end, tries, failed), (held("app"), held("web"))))
                before = machine.cells()
                self.assertIs(machine.well(), True)
                self.assertEqual(machine.boot(), (1, 3, None, 0, ()))
                self.assertEqual(machine.runs(), TAGS["web"])
                self.assertEqual(machine.cells()[0], before[0] + 1)
                self.assertIs(machine.well(), False)
                self.assertEqual(machine.cells()[0], before[0] + 1)

    def test_not_on_trial(self):
        for machine in (made(), trial(2), standing_so((1, 3, None, 0, (TAGS["old"],)), (held("app"), held("web")))):
            before = machine.cells()
            self.assertIs(machine.well(), False)
            self.assertIs(machine.well(writes=0, torn=True), False)
            self.assertEqual((machine.cells(), machine.is_on()), (before, True))

    def test_cut(self):
        machine = trial(1)
        boot = machine.boot()
        self.assertIsNone(machine.well(writes=0))
        self.assertEqual((machine.boot(), machine.is_on()), (boot, False))
        self.assertEqual(machine.start(0), TAGS["web"])
        self.assertIs(machine.well(writes=1), True)
        self.assertIs(machine.is_on(), True)

    def test_back_again(self):
        machine = trial(1)
        machine.well()
        self.assertEqual(machine.take(permit_letter(2, "app", 9), 0), "taken")
        self.assertEqual(machine.start(0), TAGS["app"])
        self.assertIs(machine.well(), True)
        self.assertEqual((machine.boot(), machine.running_row()), ((0, 2, None, 0, ()), ROWS["app"]))


class Asking(unittest.TestCase):
    def test_asking_again_tells_the_same(self):
        machine = trial(1)
        before = copy.deepcopy(machine.cells())
        for time in range(2):
            self.assertEqual(machine.cells(), before)
            self.assertEqual(machine.runs(), TAGS["web"])
            self.assertEqual(machine.running_row(), ROWS["web"])
            self.assertEqual(machine.report(3), machine.report(3))
        self.assertEqual(machine.cells(), before)

    def test_keywords_alone(self):
        machine = made()
        for call in (
            lambda: machine.take(None, 0, 1), lambda: machine.start(0, 1), lambda: machine.well(1),
            lambda: Machine("far", KEY, FACTS, CHARTER, "app", BUILDS["app"], len),
        ):
            self.assertIsNotNone(refusal(TypeError, call))
