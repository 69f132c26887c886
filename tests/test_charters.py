"""Points 9 to 11: charters, lists, permits by form, and what a charter lets by marks."""

import itertools
import unittest

from farbuilds.builds import is_tag
from farbuilds.charters import (
    first_unlet, is_charter, is_list, is_permit, lets_charter, lets_list, lets_permit,
)
from farbuilds.marks import mark_of
from farbuilds.words import is_moment
from tests.helpers import as_list, changed_once, more_or_fewer, of_another_kind, things, unchanged

NAMES = ("ann", "bob", "cy", "dee", "eve", "fay", "gus")
HOLDERS = tuple((name, 11 * nth + 3) for nth, name in enumerate(NAMES[:4]))
CHARTER = (3, HOLDERS, (2, 3, 1))
RULE = ("all", ("is", "os", "linux"), ("not", ("any", ("least", "disk", 3), ("most", "disk", 900))))
ENTRIES = (("app", 4, 26, 7, RULE), ("web", 60, 996, 99, ("all",)))
LIST = (5, 1000, ENTRIES)
PERMIT = (7, "far", "app", 30)


class ByForm(unittest.TestCase):
    def tells(self, told, right, wrong):
        for thing in right:
            self.assertIs(unchanged(told, thing), True, thing)
        for thing in wrong:
            self.assertIs(unchanged(told, thing), False, thing)

    def within(self, told, make, low, high):
        """Numbers are from low to high, and no truths."""
        self.tells(
            told, [make(number) for number in (low, low + 1, high - 1, high)],
            [make(thing) for thing in (low - 1, high + 1, -high, 10 ** 59, -(10 ** 59), True, False, None, str(low), (low,))],
        )

    def words(self, told, make):
        self.tells(
            told, [make(word) for word in ("a", "z", "abcdefgh", "charter")],
            [make(thing) for thing in ("", "A", "abcdefghi", "a1", "a b", "=a", "a\n", None, 1, True, ("a",), ["a"], {})],
        )

    def spoiled(self, told, thing, but=()):
        """Lists for tuples, and things of other kinds, at each depth, spoil a thing, but those named."""
        self.assertIs(told(thing), True)
        spoiled = changed_once(thing, as_list) + changed_once(thing, of_another_kind)
        self.tells(told, but, [other for other in spoiled if other not in but])

    def test_of_anything(self):
        for told in (is_charter, is_list, is_permit, is_tag, is_moment):
            self.tells(told, [], [thing for thing in things() if not (told == is_moment and repr(thing) in "0 1 60")])

    def test_charters(self):
        self.within(is_charter, lambda number: (number, HOLDERS, (1, 1, 1)), 1, 999)
        self.within(is_charter, lambda key: (1, (("ann", key),), (1, 1, 1)), 1, 996)
        self.words(is_charter, lambda name: (1, ((name, 1),), (1, 1, 1)))
        self.spoiled(is_charter, CHARTER)
        # All four are needed, so that one fewer is a fault, too.
        self.tells(is_charter, [], changed_once((3, HOLDERS, (4, 4, 4)), more_or_fewer))

    def test_holders(self):
        rows = [tuple((name, 1) for name in NAMES[:many]) for many in range(8)]
        self.tells(
            is_charter, [(1, rows[many], (1, 1, 1)) for many in range(1, 7)], [(1, rows[0], (1, 1, 1)), (1, rows[7], (1, 1, 1))],
        )
        one, other, third = HOLDERS[:3]
        for order in itertools.permutations((one, other, third)):
            self.assertIs(is_charter((1, order, (1, 1, 1))), order == (one, other, third))
        self.tells(is_charter, [], [
            (1, (one, one), (1, 1, 1)), (1, (one, ("ann", 500)), (1, 1, 1)), (1, (("b", 1), ("a", 2)), (1, 1, 1)),
        ])

    def test_needs(self):
        for place in range(3):
            for many in range(1, 7):
                holders = tuple((name, 1) for name in NAMES[:many])
                self.tells(
                    is_charter, [(1, holders, (1,) * place + (need,) + (1,) * (2 - place)) for need in (1, many)],
                    [(1, holders, (1,) * place + (need,) + (1,) * (2 - place)) for need in (0, many + 1, -1, True, "1", None)],
                )
        self.tells(is_charter, [], [(1, HOLDERS, (1,) * many) for many in (0, 1, 2, 4)])

    def test_lists(self):
        self.within(is_list, lambda number: (number, 0, ENTRIES), 1, 999)
        self.within(is_list, lambda until: (1, until, ENTRIES), 0, 10 ** 9)
        self.words(is_list, lambda name: (1, 0, ((name, 1, 0, 0, RULE),)))
        self.within(is_list, lambda size: (1, 0, (("app", size, 0, 0, RULE),)), 1, 60)
        self.within(is_list, lambda total: (1, 0, (("app", 1, total, 0, RULE),)), 0, 996)
        self.within(is_list, lambda grade: (1, 0, (("app", 1, 0, grade, RULE),)), 0, 99)
        self.within(is_list, lambda bound: (1, 0, (("app", 1, 0, 0, ("least", "a", bound)),)), 0, 999)
        self.tells(is_list, [], changed_once(LIST, as_list))
        # Within rules there are other bounds to a part; those the rules' tests look at.
        entries = (("app", 4, 26, 7, ("least", "disk", 3)), ("web", 60, 996, 99, ("most", "disk", 3)))
        self.spoiled(is_list, (5, 1000, entries), but=((5, 1000, ()),))
        fewer = ((5, 1000, entries[:1]), (5, 1000, entries[1:]))
        wrong = [thing for thing in changed_once((5, 1000, entries), more_or_fewer) if thing not in fewer]
        self.tells(is_list, fewer, wrong)

    def test_entries(self):
        rows = [tuple((name, 1, 0, 0, ("any",)) for name in NAMES[:many]) for many in range(8)]
        self.tells(is_list, [(1, 0, rows[many]) for many in range(7)], [(1, 0, rows[7])])
        for order in itertools.permutations(rows[3]):
            self.assertIs(is_list((1, 0, order)), order == rows[3])
        self.tells(is_list, [], [
            (1, 0, (rows[1][0], rows[1][0])), (1, 0, (("a", 1, 0, 0, ("any",)), ("a", 2, 0, 0, ("any",)))),
            (1, 0, (("a", 1, 0, 0, ("none",)),)), (1, 0, (("a", 1, 0, 0, None),)), (1, 0, (("a", 1, 0, 0),)),
        ])

    def test_permits(self):
        self.within(is_permit, lambda number: (number, "far", "app", 0), 1, 99999)
        self.within(is_permit, lambda end: (1, "far", "app", end), 0, 10 ** 9)
        self.words(is_permit, lambda name: (1, name, "app", 0))
        self.words(is_permit, lambda name: (1, "far", name, 0))
        self.spoiled(is_permit, PERMIT)
        self.tells(is_permit, [], changed_once(PERMIT, more_or_fewer))

    def test_tags_and_moments(self):
        self.within(is_tag, lambda size: ("app", size, 0), 1, 60)
        self.within(is_tag, lambda total: ("app", 1, total), 0, 996)
        self.words(is_tag, lambda name: (name, 1, 0))
        self.spoiled(is_tag, ("app", 4, 26))
        self.tells(is_tag, [], changed_once(("app", 4, 26), more_or_fewer))
        self.within(is_moment, lambda moment: moment, 0, 10 ** 9)

    def test_one_is_not_the_other(self):
        self.tells(is_charter, [CHARTER], [LIST, PERMIT])
        self.tells(is_list, [LIST], [CHARTER, PERMIT])
        self.tells(is_permit, [PERMIT], [CHARTER, LIST])


def marks_by(holders, thing):
    return tuple((name, mark_of(key, thing)) for name, key in holders)


class Lets(unittest.TestCase):
    def test_charters_by_the_needs_of_both(self):
        # ann and bob stay, cy and dee go, eve and fay come.
        ahead = HOLDERS
        behind = HOLDERS[:2] + (("eve", 400), ("fay", 500))
        for need, other_need in itertools.product(range(1, 5), repeat=2):
            charter, other = (3, ahead, (need, 1, 1)), (4, behind, (other_need, 1, 1))
            for names in itertools.chain.from_iterable(itertools.combinations(NAMES[:6], many) for many in range(7)):
                holders = [holder for holder in dict.fromkeys(ahead + behind) if holder[0] in names]
                marks = marks_by(holders, ("charter", other))
                enough = len(set(names) & {"ann", "bob", "cy", "dee"}) >= need
                other_enough = len(set(names) & {"ann", "bob", "eve", "fay"}) >= other_need
                self.assertIs(unchanged(lets_charter, charter, other, marks), enough and other_enough)

    def test_the_number_is_one_more(self):
        for number in range(1, 9):
            other = (number, HOLDERS, (1, 1, 1))
            marks = marks_by(HOLDERS, ("charter", other))
            self.assertIs(lets_charter(CHARTER, other, marks), number == 4)
        last = (999, HOLDERS, (1, 1, 1))
        self.assertIs(lets_charter((998, HOLDERS, (1, 1, 1)), last, marks_by(HOLDERS, ("charter", last))), True)

    def test_keys_that_changed_count_for_the_one_that_has_them(self):
        other = (4, (("ann", 500), ("bob", 14)), (2, 1, 1))
        thing = ("charter", other)
        charter = (3, HOLDERS[:2], (2, 1, 1))
        by_old, by_new = marks_by(HOLDERS[:2], thing), marks_by(other[1], thing)
        self.assertNotEqual(by_old, by_new)
        self.assertIs(lets_charter(charter, other, by_old), False)
        self.assertIs(lets_charter(charter, other, by_new), False)
        self.assertIs(lets_charter(charter, other, by_old + by_new), True)

    def cases(self):
        """Each way to let, with the thing that is marked and how many it needs."""
        other = (4, HOLDERS, (2, 1, 1))
        return [
            (lambda marks: unchanged(lets_charter, CHARTER, other, marks), "charter", other, 2),
            (lambda marks: unchanged(lets_list, CHARTER, LIST, marks), "list", LIST, 3),
            (lambda marks: unchanged(lets_permit, CHARTER, PERMIT, marks), "permit", PERMIT, 1),
        ]

    def test_just_enough_and_one_fewer(self):
        for told, kind, thing, need in self.cases():
            for names in itertools.chain.from_iterable(itertools.combinations(HOLDERS, many) for many in range(5)):
                self.assertIs(told(marks_by(names, (kind, thing))), len(names) >= need, (kind, names))

    def test_marks_under_another_kind(self):
        for told, kind, thing, need in self.cases():
            for other in ("charter", "list", "permit", "items", "report"):
                self.assertIs(told(marks_by(HOLDERS, (other, thing))), other == kind)
            self.assertIs(told(marks_by(HOLDERS, thing)), False)
            self.assertIs(told(marks_by(HOLDERS, (thing, kind))), False)

    def test_marks_under_another_thing(self):
        self.assertIs(lets_list(CHARTER, LIST, marks_by(HOLDERS, ("list", (6, 1000, ENTRIES)))), False)
        self.assertIs(lets_permit(CHARTER, PERMIT, marks_by(HOLDERS, ("permit", (8, "far", "app", 30)))), False)

    def test_wrong_marks_and_one_twice(self):
        for told, kind, thing, need in self.cases():
            marks = marks_by(HOLDERS[:need], (kind, thing))
            self.assertIs(told(marks), True)
            self.assertIs(told(marks + marks), True)
            self.assertIs(told(marks[:-1] * 2), False)
            self.assertIs(told(marks[:-1] + ((marks[-1][0], marks[-1][1] + 1),)), False)
            self.assertIs(told(marks[:-1] + ((marks[-1][0], marks[-1][1] - 1),)), False)
            self.assertIs(told(marks[:-1] + (("zed", marks[-1][1]),)), False)
            self.assertIs(told((("zed", 1), None, "ann") + marks + ([],)), True)

    def test_of_anything_as_marks(self):
        for told, kind, thing, need in self.cases():
            for marks in things() + [list(marks_by(HOLDERS, (kind, thing))), dict(marks_by(HOLDERS, (kind, thing)))]:
                self.assertIs(told(marks), False)


def chain(many):
    """Charters behind CHARTER, each with its marks."""
    row = []
    for number in range(4, 4 + many):
        charter = (number, HOLDERS, (number % 4 + 1, 1, 1))
        row.append((charter, marks_by(HOLDERS, ("charter", charter))))
    return row


class Chains(unittest.TestCase):
    def test_of_none_and_of_a_row_all_let(self):
        self.assertIsNone(first_unlet(CHARTER, []))
        for many in range(1, 6):
            self.assertIsNone(unchanged(first_unlet, CHARTER, chain(many)))

    def test_a_fault_at_each_place(self):
        for many in range(1, 6):
            for at in range(many):
                row = chain(many)
                row[at] = (row[at][0], ())
                self.assertEqual(unchanged(first_unlet, CHARTER, row), at)
                row = chain(many)
                row[at] = (row[at][0][:1] + (HOLDERS[:1],) + ((1, 1, 1),), row[at][1])
                self.assertEqual(first_unlet(CHARTER, row), at)

    def test_two_faults(self):
        for one, other in itertools.combinations(range(5), 2):
            row = chain(5)
            row[one], row[other] = (row[one][0], None), (row[other][0], [])
            self.assertEqual(first_unlet(CHARTER, row), one)

    def test_one_left_out_or_twice(self):
        for at in range(4):
            row = chain(5)
            self.assertEqual(first_unlet(CHARTER, row[:at] + row[at + 1:]), at)
            self.assertEqual(first_unlet(CHARTER, row[:at + 1] + row[at:]), at + 1)
        self.assertEqual(first_unlet(chain(1)[0][0], chain(2)), 0)

    def test_each_by_the_one_ahead(self):
        # bob isn't among the last one's holders' keys any more, so that his mark by the old key no longer counts.
        two = (4, (("ann", 3), ("bob", 900)), (2, 1, 1))
        three = (5, (("ann", 3), ("bob", 900)), (2, 1, 1))
        row = [(two, marks_by(HOLDERS + two[1], ("charter", two))), (three, marks_by(HOLDERS, ("charter", three)))]
        self.assertEqual(first_unlet(CHARTER, row), 1)
        row[1] = (three, marks_by(two[1], ("charter", three)))
        self.assertIsNone(first_unlet(CHARTER, row))
