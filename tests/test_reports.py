"""Point 21: reports, as machines tell them, and what is one by form."""

import unittest

from farbuilds.marks import mark_of
from farbuilds.reports import is_boot, is_marked, is_report, ran_tag
from farbuilds.sums import sum_of
from tests.helpers import as_list, changed_once, more_or_fewer, of_another_kind, things, unchanged
from tests.makers import (
    EMPTY, KEY, ROWS, TAGS, charter_letter, held, items_letter, list_letter, listed, made, permit_letter, standing_so, trial,
)

FIRST_BOOT = (0, 0, None, 0, ())
BODY = ("far", 7, 50, 3, 1, (0, 4, 30, 1, (TAGS["new"], TAGS["old"])), ((TAGS["app"], 4, 26), (None, 0, 11)))
REPORT = ("report", BODY, 500)


def with_body(place, part):
    return ("report", BODY[:place] + (part,) + BODY[place + 1:], 500)


def with_boot(place, part):
    boot = BODY[5]
    return with_body(5, boot[:place] + (part,) + boot[place + 1:])


class Told(unittest.TestCase):
    def test_as_it_is_made(self):
        rooms = ((TAGS["app"], 4, sum_of(ROWS["app"])), (None, 0, 11))
        body = ("far", 0, 17, 3, 0, FIRST_BOOT, rooms)
        self.assertEqual(made().report(17), ("report", body, mark_of(KEY, body)))
        self.assertEqual(sum_of(()), 11)

    def test_in_each_state(self):
        machine = made()
        for nth, (deed, expected) in enumerate((
            (lambda: machine.take(charter_letter(4), 1), (1, 4, 0, FIRST_BOOT, (None, ()))),
            (lambda: machine.take(list_letter(6), 1), (2, 4, 6, FIRST_BOOT, (None, ()))),
            (lambda: machine.take(items_letter("web", "app", to=2), 1), (5, 4, 6, FIRST_BOOT, held("web", 2))),
            (lambda: machine.take(items_letter("web", "app", 2), 1), (9, 4, 6, FIRST_BOOT, held("web"))),
            (lambda: machine.take(permit_letter(8, "web", 40), 1), (10, 4, 6, (0, 8, 40, 2, ()), held("web"))),
            (lambda: machine.start(1), (11, 4, 6, (0, 8, 40, 1, ()), held("web"))),
            (lambda: machine.start(1), (12, 4, 6, (0, 8, 40, 0, ()), held("web"))),
            (lambda: machine.start(1), (13, 4, 6, (0, 8, None, 0, (TAGS["web"],)), held("web"))),
        )):
            deed()
            before = machine.cells()
            writes, charter, number, boot, (tag, row) = expected
            rooms = ((TAGS["app"], 4, TAGS["app"][2]), (tag, len(row), sum_of(row)))
            body = ("far", writes, nth, charter, number, boot, rooms)
            self.assertEqual(machine.report(nth), ("report", body, mark_of(KEY, body)))
            self.assertEqual(machine.cells(), before)

    def test_torn_writes_are_counted(self):
        machine = made()
        machine.take(charter_letter(4), 0, writes=0, torn=True)
        machine.start(0)
        self.assertEqual(machine.report(0)[1][1], 1)

    def test_by_form_and_by_its_key(self):
        for machine in (made(), trial(2), trial(1), trial(0), standing_so((1, 9, None, 0, (TAGS["old"],)), (EMPTY, held("new")))):
            for moment in (0, 10 ** 9):
                told = machine.report(moment)
                self.assertIs(is_report(told), True)
                self.assertEqual([key for key in range(1, 997) if unchanged(is_marked, told, key)],
                                 [key for key in range(1, 997) if mark_of(key, told[1]) == told[2]])
                self.assertIs(is_marked(told, KEY), True)
                self.assertEqual(unchanged(ran_tag, told), machine.runs())

    def test_a_wrong_mark(self):
        kind, body, mark = made().report(3)
        self.assertIs(is_marked((kind, body, (mark + 1) % 997), KEY), False)
        self.assertIs(is_marked((kind, body[:2] + (4,) + body[3:], mark), KEY), False)


class ByForm(unittest.TestCase):
    def tells(self, right, wrong):
        for thing in right:
            self.assertIs(unchanged(is_report, thing), True, thing)
        for thing in wrong:
            self.assertIs(unchanged(is_report, thing), False, thing)

    def within(self, make, low, high):
        self.tells(
            [make(number) for number in (low, low + 1, high - 1, high)],
            [make(thing) for thing in (low - 1, high + 1, True, False, None, str(low), (low,), [low], -(10 ** 59))],
        )

    def test_of_anything(self):
        self.tells([REPORT], things())
        for thing in things():
            self.tells([], [("report", thing, 500), ("report", thing), (thing, BODY, 500)])
            for place in range(7):
                right = place == 0 and thing in ("a", "abc", "old", "new") or place in (1, 2, 4) and type(thing) is int and (
                    0 <= thing and (place == 1 or thing <= 60)) or place == 3 and type(thing) is int and 1 <= thing <= 60
                self.assertIs(is_report(with_body(place, thing)), right, (place, thing))

    def test_each_part_at_its_bounds(self):
        self.within(lambda mark: ("report", BODY, mark), 0, 996)
        self.within(lambda moment: with_body(2, moment), 0, 10 ** 9)
        self.within(lambda number: with_body(3, number), 1, 999)
        self.within(lambda number: with_body(4, number), 0, 999)
        self.within(lambda number: with_boot(1, number), 0, 99999)
        for make, low, high in (
            (lambda many: with_body(6, (BODY[6][0], (TAGS["app"], many, 0))), 0, 60),
            (lambda total: with_body(6, ((TAGS["app"], 0, total), BODY[6][1])), 0, 996),
            (lambda size: with_body(6, ((("app", size, 0), 0, 0), BODY[6][1])), 1, 60),
            (lambda total: with_body(6, ((("app", 1, total), 0, 0), BODY[6][1])), 0, 996),
        ):
            self.within(make, low, high)
        self.tells([with_boot(0, room) for room in (0, 1)], [with_boot(0, room) for room in (-1, 2, True, False, None, "0", (0,))])
        self.tells([with_boot(3, tries) for tries in (0, 1, 2)], [with_boot(3, tries) for tries in (-1, 3, True, False, None, "0")])
        self.tells(
            [with_boot(2, end) for end in (None, 0, 10 ** 9)], [with_boot(2, end) for end in (-1, 10 ** 9 + 1, True, False, "", (), [])],
        )
        self.tells(
            [with_body(1, writes) for writes in (0, 1, 10 ** 9, 10 ** 59)], [with_body(1, writes) for writes in (-1, True, False, None, "1")],
        )
        self.tells(
            [with_body(0, name) for name in ("a", "abcdefgh")], [with_body(0, name) for name in ("", "abcdefghi", "A", "a1", None, 1, ("a",))],
        )

    def test_what_failed(self):
        new, old, web = TAGS["new"], TAGS["old"], TAGS["web"]
        many = tuple((name, size, 0) for name in "abc" for size in range(1, 61))
        self.tells(
            [with_boot(4, failed) for failed in ((), (new,), (new, old), (new, old, web), many, (("a", 1, 0), ("a", 1, 1), ("a", 2, 0)))],
            [with_boot(4, failed) for failed in (
                (old, new), (new, new), (new, old, old), [new], (list(new),), (new[:2],), (None,), None, new, (new, None), "",
                (("a", 2, 0), ("a", 1, 1)), (("a", 1, 1), ("a", 1, 0)),
            )],
        )

    def test_each_part_alone(self):
        # No part is looked at beside another one.
        self.tells([
            with_body(5, (0, 0, None, 2, ())), with_body(5, (1, 5, 3, 0, (TAGS["app"],))), with_body(6, ((None, 60, 996), (None, 5, 3))),
            with_body(6, ((TAGS["app"], 60, 0), (TAGS["app"], 0, 996))),
        ], [])

    def test_rooms(self):
        one, other = BODY[6]
        self.tells([with_body(6, (other, one))], [
            with_body(6, rooms) for rooms in ((), (one,), (one, other, one), [one, other], (one, None), (one, other[:2]), (one, other + (0,)))
        ])

    def test_other_words_lists_and_lengths(self):
        self.tells([], [("reports", BODY, 500), ("Report", BODY, 500), (None, BODY, 500), ("items", BODY, 500)])
        self.tells([], changed_once(REPORT, as_list))
        kept = (BODY[5][4][:1], BODY[5][4][1:])
        self.tells([], [thing for thing in changed_once(REPORT, more_or_fewer) if thing not in [with_boot(4, failed) for failed in kept]])
        free = [with_body(1, 10 ** 59), with_boot(2, None), with_boot(4, ()), with_body(6, ((None, 4, 26), BODY[6][1]))]
        self.tells(free, [thing for thing in changed_once(REPORT, of_another_kind) if thing not in free])

    def test_boots(self):
        for machine in (made(), trial(2), trial(1), trial(0)):
            self.assertIs(is_boot(machine.boot()), True)
        for thing in things():
            self.assertIs(is_boot(thing), False)
        self.assertIs(is_boot(listed(1, 2, ())), False)


class Ran(unittest.TestCase):
    def test_by_boot(self):
        rooms = ((TAGS["app"], 4, 26), (TAGS["web"], 6, 0))
        for boot, place in (
            ((0, 1, None, 0, ()), 0), ((1, 1, None, 0, ()), 1), ((0, 1, 9, 2, ()), 0), ((1, 1, 9, 2, ()), 1), ((0, 1, 9, 1, ()), 1),
            ((1, 1, 9, 0, ()), 0), ((0, 1, 0, 0, ()), 1), ((0, 1, None, 1, ()), 0),
        ):
            self.assertEqual(ran_tag(("report", BODY[:5] + (boot, rooms), 0)), rooms[place][0])
