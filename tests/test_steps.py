"""Point 7: steps, what they write and what they cost."""

import itertools
import random
import unittest

from farbuilds.errors import NoSteps
from farbuilds.steps import are_steps, cost_of, written
from tests.helpers import refusal, things, unchanged

OLD = ("=a", "b", "c", "=d", "e")
BIG = 10 ** 59

FORMS = [
    (), (("old", 0, 1),), (("own", 0, 1),), (("new", ("a",)),), (("new", ("=a", "b")), ("own", 1, 5), ("old", 3, 2)),
    (("old", BIG, 1),), (("old", 0, BIG),), (("own", BIG, BIG),), (("new", ("a",) * 61),), (("old", 0, 1),) * 70,
]

NO_STEPS = [
    ("old", 0), ("old", 0, 1, 1), ("old",), ("own", 0), ("own", 0, 1, 0), ("new",), ("new", ("a",), 1), ("new", ()),
    ("new", ["a"]), ("new", "a"), ("new", None), ("new", ("",)), ("new", ("=",)), ("new", ("==a",)), ("new", ("A",)),
    ("new", ("a", None)), ("new", ("a", 1)), ("new", ("a", ("b",))), ("new", ("abcdefghi",)), ("new", ("a\n",)),
    ("new", 0, 1), ("old", ("a",)), ("own", ("a",)),
    ("old", -1, 1), ("old", 0, 0), ("old", 0, -1), ("old", -BIG, 1), ("old", 0, -BIG),
    ("own", -1, 1), ("own", 0, 0), ("own", 0, -1), ("own", -BIG, 1), ("own", 0, -BIG),
    ("old", True, 1), ("old", False, 1), ("old", 0, True), ("own", True, 1), ("own", False, 1), ("own", 0, True),
    ("old", None, 1), ("old", 0, None), ("old", "0", 1), ("own", 0, "1"), ("old", (0,), 1), ("own", [0], {}),
    ("older", 0, 1), ("Old", 0, 1), ("", 0, 1), (None, 0, 1), (0, 0, 1), (("old",), 0, 1), ([], 0, 1), ({}, 0, 1),
    ["old", 0, 1], ["new", ("a",)], "old", "new", (), None, True, 0, [], {}, {"old": 0},
]


def plainly(old, begun, steps):
    """What steps write, by the words of the document; the number of the first that can't be, where one can't."""
    items = list(begun)
    for nth, step in enumerate(steps):
        if step[0] == "new":
            items += step[1]
        elif step[0] == "old":
            if any(at >= len(old) for at in range(step[1], step[1] + step[2])):
                return nth
            items += [old[at] for at in range(step[1], step[1] + step[2])]
        else:
            if step[1] > len(items) - 1:
                return nth
            for k in range(step[2]):
                items.append(items[step[1] + k])
        if len(items) > 60:
            return nth
    return tuple(items)


class Form(unittest.TestCase):
    def test_steps_by_form(self):
        for steps in FORMS:
            self.assertIs(unchanged(are_steps, steps), True, steps)

    def test_one_that_is_none_spoils_all(self):
        for step in NO_STEPS:
            for steps in ((step,), (("old", 0, 1), step), (step, ("new", ("a",)))):
                self.assertIs(unchanged(are_steps, steps), False, steps)

    def test_of_anything(self):
        for thing in things() + [list(steps) for steps in FORMS] + [{"old": (0, 1)}]:
            self.assertIs(unchanged(are_steps, thing), thing == (), thing)


class Written(unittest.TestCase):
    def test_none(self):
        self.assertEqual(written(OLD, (), ()), ())
        self.assertEqual(written(OLD, ("x", "y"), ()), ("x", "y"))
        self.assertEqual(written((), (), ()), ())

    def test_old(self):
        self.assertEqual(written(OLD, (), (("old", 0, 5),)), OLD)
        self.assertEqual(written(OLD, (), (("old", 1, 2), ("old", 4, 1))), ("b", "c", "e"))
        self.assertEqual(written(OLD, ("x",), (("old", 3, 2),)), ("x", "=d", "e"))

    def test_own(self):
        self.assertEqual(written((), ("x", "y", "z"), (("own", 1, 2),)), ("x", "y", "z", "y", "z"))
        self.assertEqual(written((), ("x", "y"), (("own", 0, 1), ("own", 2, 1))), ("x", "y", "x", "x"))

    def test_own_runs_on_into_what_it_writes(self):
        self.assertEqual(written((), ("x", "y"), (("own", 1, 3),)), ("x", "y", "y", "y", "y"))
        self.assertEqual(written((), ("x", "y"), (("own", 0, 5),)), ("x", "y", "x", "y", "x", "y", "x"))
        self.assertEqual(written((), (), (("new", ("a",)), ("own", 0, 59))), ("a",) * 60)

    def test_new(self):
        self.assertEqual(written((), (), (("new", ("=x", "y")),)), ("=x", "y"))
        self.assertEqual(written(OLD, ("q",), (("new", ("x",)), ("new", ("y", "z")))), ("q", "x", "y", "z"))

    def test_many(self):
        steps = (("new", ("=q",)), ("old", 1, 2), ("own", 0, 4), ("old", 0, 1), ("own", 2, 1))
        self.assertEqual(written(OLD, (), steps), ("=q", "b", "c", "=q", "b", "c", "=q", "=a", "c"))

    def test_just_sixty_items_and_one_more(self):
        for begun, last in (
            (("a",) * 59, ("new", ("b",))), (("a",) * 58, ("new", ("b", "b"))), (("a",) * 55, ("old", 0, 5)),
            (("a",) * 58, ("own", 57, 2)), ((), ("new", ("b",) * 60)), (("a",) * 1, ("own", 0, 59)),
        ):
            self.assertEqual(len(written(OLD, begun, (last,))), 60)
            for more in (("old", 0, 1), ("own", 0, 1), ("new", ("x",))):
                self.assertEqual(refusal(NoSteps, written, OLD, begun, (last, more)).nth, 1)
            self.assertEqual(refusal(NoSteps, written, OLD, begun + ("a",), (last,)).nth, 0)
        self.assertEqual(refusal(NoSteps, written, OLD, (), (("new", ("b",) * 61),)).nth, 0)

    def test_beyond_the_old_row(self):
        self.assertEqual(written(OLD, (), (("old", 4, 1),)), ("e",))
        for step in (("old", 4, 2), ("old", 5, 1), ("old", 0, 6), ("old", BIG, 1), ("old", 0, BIG), ("old", 6, 1)):
            self.assertEqual(refusal(NoSteps, written, OLD, (), (step,)).nth, 0, step)
            self.assertEqual(refusal(NoSteps, written, OLD, ("x",), (("new", ("y",)), step)).nth, 1, step)
        self.assertEqual(refusal(NoSteps, written, (), (), (("old", 0, 1),)).nth, 0)

    def test_beyond_what_is_written(self):
        self.assertEqual(written((), ("x", "y"), (("own", 1, 1),)), ("x", "y", "y"))
        for step in (("own", 2, 1), ("own", 3, 1), ("own", BIG, 1), ("own", 0, BIG), ("own", BIG, BIG)):
            self.assertEqual(refusal(NoSteps, written, OLD, ("x", "y"), (step,)).nth, 0, step)
        self.assertEqual(refusal(NoSteps, written, OLD, (), (("own", 0, 1),)).nth, 0)

    def test_the_first_that_is_none_or_cannot_be(self):
        good, none, cannot = ("new", ("a",)), ("old", 0, 0), ("old", 9, 1)
        for steps, nth in (
            ((none,), 0), ((cannot,), 0), ((good, none, cannot), 1), ((good, cannot, none), 1),
            ((good, good, cannot), 2), ((good, good, good, none), 3), ((none, cannot), 0), ((cannot, none), 0),
        ):
            self.assertEqual(refusal(NoSteps, written, OLD, (), steps).nth, nth, steps)

    def test_each_step_that_is_none(self):
        for step in NO_STEPS:
            self.assertEqual(refusal(NoSteps, written, OLD, ("x",), (step,)).nth, 0, step)
            self.assertEqual(refusal(NoSteps, written, OLD, ("x",), (("own", 0, 2), step)).nth, 1, step)

    def test_of_anything(self):
        for thing in things() + [[("old", 0, 1)], "steps"]:
            if thing == ():
                continue
            nth = 0 if isinstance(thing, tuple) else -1
            for call in (lambda steps: written(OLD, ("x",), steps), cost_of):
                refused = refusal(NoSteps, unchanged, call, thing)
                self.assertIsNotNone(refused, thing)
                self.assertEqual(refused.nth, nth, thing)

    def test_against_the_words(self):
        chance = random.Random(7)
        for times in range(4000):
            steps = tuple(chance.choice((
                ("old", chance.randrange(6), chance.randrange(1, 5)), ("own", chance.randrange(8), chance.randrange(1, 15)),
                ("new", tuple(chance.choice(("x", "=y")) for count in range(chance.randrange(1, 6)))),
            )) for count in range(chance.randrange(8)))
            begun = tuple(chance.choice("pq") for count in range(chance.choice((0, 1, 3, 30))))
            expected = plainly(OLD, begun, steps)
            if isinstance(expected, int):
                self.assertEqual(refusal(NoSteps, written, OLD, begun, steps).nth, expected)
            else:
                told = unchanged(written, OLD, begun, steps)
                self.assertIs(type(told), tuple)
                self.assertEqual(told, expected)

    def test_each_small_step(self):
        for word, at, many in itertools.product(("old", "own"), range(-1, 8), range(-1, 8)):
            begun, steps = ("p", "q", "r"), ((word, at, many),)
            expected = 0 if at < 0 or many < 1 else plainly(OLD, begun, steps)
            if expected == 0:
                self.assertEqual(refusal(NoSteps, written, OLD, begun, steps).nth, 0)
            else:
                self.assertEqual(written(OLD, begun, steps), expected)


class Cost(unittest.TestCase):
    def test_hand_reckoned(self):
        for steps, cost in (
            ((), 0), ((("old", 0, 1),), 3), ((("own", 0, 50),), 3), ((("new", ("a",)),), 2),
            ((("new", ("a", "=b", "c")),), 4), ((("new", ("a",)), ("new", ("a",))), 4),
            ((("old", 0, 1), ("own", 0, 1), ("new", ("a", "b")), ("old", 3, 3)), 12),
        ):
            self.assertEqual(unchanged(cost_of, steps), cost, steps)

    def test_by_form_alone(self):
        for steps, cost in (
            ((("old", BIG, BIG),), 3), ((("own", 0, 1),), 3), ((("new", ("a",) * 61),), 62), ((("old", 0, 1),) * 70, 210),
        ):
            self.assertEqual(cost_of(steps), cost)

    def test_the_first_that_is_none(self):
        for step in NO_STEPS:
            self.assertEqual(refusal(NoSteps, cost_of, (step,)).nth, 0, step)
            self.assertEqual(refusal(NoSteps, cost_of, (("own", 9, 2), ("new", ("a",)), step, step)).nth, 2, step)
