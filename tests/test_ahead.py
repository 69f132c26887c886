"""Point 31: which machines come, in which order, why the others don't, and a look at such answers."""

import itertools
import random
import unittest

from farbuilds.ahead import ahead
from farbuilds.aheadlooks import shows_ahead
from tests.helpers import as_list, changed_once, more_or_fewer, of_another_kind, shown, things, unchanged

NAMES = ("ann", "bob", "cy", "dan", "eve")


def machine(name, ring=0, may=True, has=False, grade=1, behind=None):
    return (name, ring, may, has, grade, behind)


def plain_can(one, machines, gates, grade, come):
    """Whether one can come, in the words of point 31."""
    name, ring, may, has, own, behind = one
    by_name = {other[0]: other for other in machines}
    is_open = ring == 0 or len(gates) < ring or sum(1 for other in machines if other[1] < ring and other[0] in come) >= gates[ring - 1][0]
    front = behind is None or behind in come or by_name[behind][4] >= grade
    backs = all(other[0] in come or other[4] <= grade for other in machines if other[5] == name)
    return may and is_open and front and backs


def plain_why(one, machines, gates, grade, come):
    name, ring, may, has, own, behind = one
    by_name = {other[0]: other for other in machines}
    many = len([other for other in machines if other[1] < ring and other[0] in come])
    if ring > 0 and ring - 1 < len(gates) and many < gates[ring - 1][0]:
        return ("gate", many)
    if behind is not None and behind not in come and by_name[behind][4] < grade:
        return ("behind", behind)
    for other in sorted(by_name):
        if by_name[other][5] == name and other not in come and by_name[other][4] > grade:
            return ("before", other)
    return None


def all_orders(machines, gates, grade):
    """All orders, as lists of names, in which all come that ever can, by a going through all orders."""
    found = []

    def go(names, come):
        more = [one for one in machines if one[0] not in come and plain_can(one, machines, gates, grade, come)]
        if not more:
            found.append(names)
        for one in more:
            go(names + [one[0]], come | {one[0]})

    go([], {one[0] for one in machines if one[3]})
    return found


def plain_whys(machines, gates, grade, names):
    come = {one[0] for one in machines if one[3]} | set(names)
    left = sorted(one for one in machines if one[2] and one[0] not in come)
    return [(one[0], plain_why(one, machines, gates, grade, come)) for one in left]


def drawn(draw):
    many = draw.choice((0, 1, 2, 3, 3, 4, 4, 5))
    names = draw.sample(NAMES, many)
    machines = []
    for nth, name in enumerate(names):
        behind = draw.choice([None] + names[:nth])
        machines.append(machine(name, draw.choice((0, 0, 1, 2, 3)), draw.random() < 0.85, draw.random() < 0.2, draw.choice((1, 2, 3)), behind))
    draw.shuffle(machines)
    gates = tuple((draw.choice((0, 1, 1, 2, 3)), draw.choice((0, 9)), draw.choice((0, 9))) for nth in range(draw.choice((0, 1, 2, 3))))
    return tuple(machines), gates, 2


class Ahead(unittest.TestCase):
    def holds(self, machines, gates, grade, names, whys):
        told = unchanged(ahead, machines, gates, grade)
        self.assertIs(type(told), tuple)
        self.assertEqual((sorted(told[0]), told[1]), (sorted(names), whys))
        self.assertIn(told[0], all_orders(machines, gates, grade))
        self.assertIs(unchanged(shows_ahead, machines, gates, grade, told), True)

    def test_none_and_one(self):
        self.holds((), (), 2, [], [])
        self.holds((), ((1, 1, 1),), 2, [], [])
        for one, names in (
            (machine("ann"), ["ann"]), (machine("ann", may=False), []), (machine("ann", has=True), []),
            (machine("ann", may=False, has=True), []), (machine("ann", grade=2), ["ann"]), (machine("ann", grade=99), ["ann"]),
            (machine("ann", 3), ["ann"]),
        ):
            self.holds((one,), (), 2, names, [])

    def test_gates(self):
        for ring, many, need in itertools.product(range(4), range(4), range(3)):
            machines = (machine("ann", ring),)
            barred = 0 < ring <= many and need > 0
            self.holds(machines, ((need, 5, 5),) * many, 2, [] if barred else ["ann"], [("ann", ("gate", 0))] if barred else [])

    def test_how_many_of_lesser_rings_have_come(self):
        # ann comes, bob has it, cy may not; dan in ring 1 counts for ring 2, not for its own.
        machines = (machine("ann"), machine("bob", has=True, may=False), machine("cy", may=False), machine("dan", 1), machine("eve", 2))
        for need in range(6):
            rest = ["dan"] if need <= 2 else []
            whys = [] if need <= 2 else [("dan", ("gate", 2))]
            come = 2 + len(rest)
            if need <= come:
                self.holds(machines, ((need, 0, 0), (need, 0, 0)), 2, ["ann", "eve"] + rest, whys)
            else:
                self.holds(machines, ((need, 0, 0), (need, 0, 0)), 2, ["ann"] + rest, whys + [("eve", ("gate", come))])

    def test_waits_and_failures_aside(self):
        machines = (machine("ann"), machine("bob", 1), machine("cy", may=False))
        self.holds(machines, ((1, 999, 0),), 2, ["ann", "bob"], [])

    def test_behind_another_one(self):
        for grade, may, has, come in (
            (1, True, False, ["ann", "bob"]), (1, False, False, []), (2, False, False, ["ann"]), (3, False, False, ["ann"]),
            (1, False, True, ["ann"]), (3, True, False, ["ann", "bob"]),
        ):
            machines = (machine("ann", behind="bob"), machine("bob", may=may, has=has, grade=grade))
            whys = [] if "ann" in come else [("ann", ("behind", "bob"))]
            self.holds(machines, (), 2, come, whys)
            self.assertEqual(ahead(machines, (), 2)[0], sorted(come, reverse=grade == 1) if len(come) == 2 else come)

    def test_before_another_one(self):
        # Going down: the one behind has to go first.
        for grade, may, has, come in (
            (3, True, False, ["ann", "bob"]), (3, False, False, []), (2, False, False, ["ann"]), (1, False, False, ["ann"]),
            (3, False, True, ["ann"]),
        ):
            machines = (machine("ann", grade=3), machine("bob", may=may, has=has, grade=grade, behind="ann"))
            whys = [] if "ann" in come else [("ann", ("before", "bob"))]
            self.holds(machines, (), 2, come, whys)

    def test_the_first_one_that_bars_by_its_name(self):
        machines = (
            machine("ann", grade=3, may=False, behind="eve"), machine("dan", grade=1, may=False, behind="eve"),
            machine("cy", grade=3, may=False, behind="eve"), machine("bob", grade=3, behind="eve"), machine("eve", grade=3),
        )
        self.holds(machines, (), 2, ["bob"], [("eve", ("before", "ann"))])
        self.holds(machines[1:], (), 2, ["bob"], [("eve", ("before", "cy"))])

    def test_the_first_reason(self):
        front = machine("bob", may=False, grade=1)
        back = machine("cy", may=False, grade=3, behind="ann")
        one = machine("ann", 1, behind="bob")
        self.holds((one, front, back), ((1, 0, 0),), 2, [], [("ann", ("gate", 0))])
        self.holds((one, front, back), (), 2, [], [("ann", ("behind", "bob"))])
        self.holds((one, front[:4] + (2, None), back), (), 2, [], [("ann", ("before", "cy"))])
        self.holds((one, front[:4] + (2, None), back[:4] + (2, "ann")), (), 2, ["ann"], [])

    def test_chains(self):
        for count in range(2, 6):
            names = NAMES[:count]
            up = tuple(machine(name, behind=names[nth - 1] if nth else None) for nth, name in enumerate(names))
            for order in (up, up[::-1]):
                self.holds(order, (), 2, list(names), [])
                self.assertEqual(ahead(order, (), 2)[0], list(names))
            down = tuple(one[:4] + (3, one[5]) for one in up)
            for order in (down, down[::-1]):
                self.holds(order, (), 2, list(names), [])
                self.assertEqual(ahead(order, (), 2)[0], list(names)[::-1])

    def test_whys_rise_by_names(self):
        machines = tuple(machine(name, 1) for name in NAMES[::-1])
        self.holds(machines, ((1, 0, 0),), 2, [], [(name, ("gate", 0)) for name in NAMES])

    def test_those_that_may_not_have_no_why(self):
        machines = (machine("ann", 1, may=False), machine("bob", 1))
        self.holds(machines, ((1, 0, 0),), 2, [], [("bob", ("gate", 0))])

    def test_drawn_against_all_orders(self):
        seen = {}
        for seed in range(1500):
            machines, gates, grade = drawn(random.Random(seed))
            orders = all_orders(machines, gates, grade)
            # All orders come to the same end.
            self.assertEqual(len({tuple(sorted(names)) for names in orders}), 1)
            told = unchanged(ahead, machines, gates, grade)
            self.assertIn(told[0], orders)
            whys = plain_whys(machines, gates, grade, told[0])
            self.assertEqual(told[1], whys)
            for name, why in whys:
                seen[why[0]] = seen.get(why[0], 0) + 1
            if len(machines) < 5:
                for names in orders:
                    self.assertIs(shows_ahead(machines, gates, grade, (names, whys)), True)
        self.assertGreater(min(seen["gate"], seen["behind"], seen["before"]), 100)

    def test_lists_are_the_askers_own(self):
        machines = (machine("ann"), machine("bob", 1))
        first = ahead(machines, ((2, 0, 0),), 2)
        self.assertEqual(first, (["ann"], [("bob", ("gate", 1))]))
        first[0].clear()
        first[1].clear()
        self.assertEqual(ahead(machines, ((2, 0, 0),), 2), (["ann"], [("bob", ("gate", 1))]))


def others_of(told, machines):
    """Answers like this one with one thing otherwise."""
    names, whys = told
    every = [one[0] for one in machines] + ["zoe", "", None, 1, [], ("ann",)]
    found = [(names, whys, []), (names,), [names, whys], (tuple(names), whys), (names, tuple(whys)), (whys, names), (names, None), (None, whys)]
    for at in range(len(names)):
        found.append((names[:at] + names[at + 1:], whys))
        found.append((names[:at] + [names[at]] + names[at:], whys))
        found.extend((names[:at] + [name] + names[at + 1:], whys) for name in every)
        found.extend((names[:at] + [name] + names[at:], whys) for name in every)
        for other in range(at):
            changed = list(names)
            changed[at], changed[other] = names[other], names[at]
            found.append((changed, whys))
    found.extend((names + [name], whys) for name in every)
    for at, (name, why) in enumerate(whys):
        found.append((names, whys[:at] + whys[at + 1:]))
        found.append((names, whys[:at] + [whys[at]] + whys[at:]))
        found.append((names + [name], whys[:at] + whys[at + 1:]))
        others = [("gate", number) for number in range(-1, 4)] + [("behind", other) for other in every] + [("before", other) for other in every]
        others += [None, (), why + (0,), why[:1], list(why), ("gate", str(why[1])), (why[0].upper(), why[1])]
        found.extend((names, whys[:at] + [(name, other)] + whys[at + 1:]) for other in others)
        found.extend((names, whys[:at] + [(other, why)] + whys[at + 1:]) for other in every)
        found.append((names, whys[:at] + [[name, why]] + whys[at + 1:]))
        found.append((names, whys[:at] + [(name, why, None)] + whys[at + 1:]))
    if len(whys) > 1:
        found.append((names, whys[::-1]))
    found.append((names, whys + [("zoe", ("gate", 0))]))
    found.extend((names, whys + [(one[0], ("gate", 0))]) for one in machines)
    return found


class Lookers(unittest.TestCase):
    def is_right(self, machines, gates, grade, orders, told):
        """Whether an answer is one, by the words of the point."""
        if type(told) is not tuple or len(told) != 2 or type(told[0]) is not list or type(told[1]) is not list:
            return False
        return shown(told[0]) in orders and shown(told[1]) == shown(plain_whys(machines, gates, grade, told[0]))

    def test_answers_with_one_thing_otherwise(self):
        right = wrong = 0
        for seed in range(120):
            machines, gates, grade = drawn(random.Random(seed))
            orders = {shown(names) for names in all_orders(machines, gates, grade)}
            for told in others_of(ahead(machines, gates, grade), machines):
                expected = self.is_right(machines, gates, grade, orders, told)
                self.assertIs(unchanged(shows_ahead, machines, gates, grade, told), expected, (machines, gates, told))
                right, wrong = right + expected, wrong + (not expected)
        self.assertGreater(right, 50)
        self.assertGreater(wrong, 3000)

    def test_a_name_that_can_not_come_yet(self):
        machines = (machine("ann"), machine("bob", behind="ann"))
        self.assertIs(shows_ahead(machines, (), 2, (["ann", "bob"], [])), True)
        self.assertIs(shows_ahead(machines, (), 2, (["bob", "ann"], [])), False)
        self.assertIs(shows_ahead(machines, (), 2, (["ann"], [])), False)
        self.assertIs(shows_ahead(machines, (), 2, (["ann"], [("bob", None)])), False)
        self.assertIs(shows_ahead(machines, (), 2, ([], [("ann", None), ("bob", ("behind", "ann"))])), False)

    def test_those_that_have_it_or_may_not_are_not_named(self):
        machines = (machine("ann", has=True), machine("bob"), machine("cy", may=False))
        self.assertIs(shows_ahead(machines, (), 2, (["bob"], [])), True)
        for names in (["ann", "bob"], ["bob", "ann"], ["bob", "cy"], ["bob", "bob"]):
            self.assertIs(shows_ahead(machines, (), 2, (names, [])), False)

    def test_truths_are_no_numbers(self):
        for machines, number in (((machine("ann", 1),), 0), ((machine("ann", 1), machine("bob", has=True)), 1)):
            self.assertIs(shows_ahead(machines, ((2, 0, 0),), 2, ([], [("ann", ("gate", number))])), True)
            self.assertIs(shows_ahead(machines, ((2, 0, 0),), 2, ([], [("ann", ("gate", number == 1))])), False)

    def test_of_anything(self):
        machines = (machine("ann"), machine("bob", 1))
        told = ahead(machines, ((2, 0, 0),), 2)
        for thing in things():
            for answer in (thing, (thing, told[1]), (told[0], thing), ([thing], told[1]), (told[0] + [thing], told[1]), (told[0], [thing])):
                self.assertIs(unchanged(shows_ahead, machines, ((2, 0, 0),), 2, answer), False)
            self.assertIs(shows_ahead(machines, ((2, 0, 0),), 2, (["ann"], [("bob", thing)])), False)
            self.assertIs(shows_ahead(machines, ((2, 0, 0),), 2, (["ann"], [(thing, ("gate", 1))])), False)
            if thing != 1 or thing is True:
                self.assertIs(shows_ahead(machines, ((2, 0, 0),), 2, (["ann"], [("bob", ("gate", thing))])), False)
        for kind in (as_list, more_or_fewer, of_another_kind):
            for thing in changed_once(("bob", ("gate", 1)), kind):
                self.assertIs(shows_ahead(machines, ((2, 0, 0),), 2, (["ann"], [thing])), False)
        # Of no machines the answer of nothing is one.
        self.assertIs(shows_ahead((), (), 2, ([], [])), True)
        self.assertIs(shows_ahead((), (), 2, ((), ())), False)
