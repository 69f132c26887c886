"""Points 12 and 13: rules by form, and the facts that they let."""

import random
import unittest

from farbuilds.rules import is_rule, lets
from tests.helpers import as_list, changed_once, more_or_fewer, of_another_kind, things, unchanged

PLAIN = ("is", "os", "linux")
MIXED = ("all", ("is", "os", "linux"), ("not", ("any", ("least", "disk", 3), ("most", "disk", 900))))


def wrapped(kind, rule, times):
    for time in range(times):
        rule = (kind, rule)
    return rule


class ByForm(unittest.TestCase):
    def tells(self, right, wrong):
        for thing in right:
            self.assertIs(unchanged(is_rule, thing), True, thing)
        for thing in wrong:
            self.assertIs(unchanged(is_rule, thing), False, thing)

    def test_of_anything(self):
        self.tells([], things())
        self.tells([], [(thing,) for thing in things()] + [("not", thing) for thing in things()])
        self.tells([], [("all", PLAIN, thing) for thing in things()])
        self.tells([], [(thing, PLAIN) for thing in things()])

    def test_plain_ones(self):
        for kind in ("is", "least", "most"):
            self.tells(
                [(kind, fact, number) for number in (0, 1, 998, 999) for fact in ("a", "abcdefgh", "is", "not")],
                [(kind, "a", thing) for thing in (-1, 1000, 10 ** 59, True, False, None, (1,), [1], {}, "", "A", "abcdefghi", "=a")],
            )
            self.tells([], [(kind, fact, 1) for fact in ("", "A", "abcdefghi", "=a", 1, True, None, ("a",), ["a"])])
            self.tells([], [(kind,), (kind, "a"), (kind, "a", 1, 1), (kind, "a", 1, PLAIN), [kind, "a", 1]])
        self.tells([("is", "a", word) for word in ("a", "abcdefgh", "is")], [])
        self.tells([], [(kind, "a", word) for kind in ("least", "most") for word in ("a", "abcdefgh", "is")])
        self.tells([], [(kind, "a", 1) for kind in ("isnt", "IS", "", "leas", "less", None, 0, True, ("is",), ["is"])])

    def test_not(self):
        self.tells([("not", PLAIN), ("not", ("not", PLAIN))], [("not",), ("not", PLAIN, PLAIN), ("not", None), ["not", PLAIN]])

    def test_all_and_any_of_none_to_five(self):
        for kind in ("all", "any"):
            self.tells([(kind,) + (PLAIN,) * many for many in range(5)], [(kind,) + (PLAIN,) * many for many in (5, 6)])
            self.tells([], [(kind, (PLAIN, PLAIN)), (kind, ()), (kind, [PLAIN]), [kind, PLAIN], (kind, "is")])

    def test_one_to_five_within_one_another(self):
        for kind in ("not", "all", "any"):
            self.tells([wrapped(kind, PLAIN, times) for times in range(4)], [wrapped(kind, PLAIN, times) for times in range(4, 12)])
            for inner in (("all",), ("any",)):
                self.tells(
                    [wrapped(kind, inner, times) for times in range(4)], [wrapped(kind, inner, times) for times in range(4, 12)],
                )
        # One that is too deep spoils all, wherever it stands.
        deep = wrapped("not", PLAIN, 3)
        self.tells([("all", PLAIN, deep[1])], [("all", PLAIN, deep), ("any", deep, PLAIN)])

    def test_eight_and_nine_plain_ones(self):
        four = ("all", PLAIN, ("least", "a", 1), ("most", "b", 2), PLAIN)
        none = ("any", ("all",), ("any",), PLAIN, ("all",))
        self.tells([("any", four, four), ("all", none, none), ("not", ("all", four, none)), ("all", four, none)], [])
        for more in (PLAIN, ("all",), ("any",), ("not", PLAIN), ("not", ("all",))):
            self.tells([], [("any", four, four, more), ("all", more, none, four), ("all", none, more, none)])
            self.tells([("any", four, PLAIN, PLAIN, PLAIN), ("any", four, ("all", PLAIN, more), PLAIN, PLAIN)], [])
        self.tells([], [("all", four, four, four, four), ("all", four, four, four)])
        # not counts for nothing by itself.
        self.tells([("not", ("any", four, four)), ("any", ("not", four), ("not", four))], [])
        self.tells([], [("not", ("any", four, four, PLAIN)), ("any", four, ("not", ("all", PLAIN, PLAIN, PLAIN)), PLAIN, PLAIN)])

    def test_lists_for_tuples_and_other_kinds(self):
        self.tells([MIXED], changed_once(MIXED, as_list))
        self.tells([], changed_once(MIXED, of_another_kind))
        fewer = [("not", ("any", ("least", "disk", 3))), ("not", ("any", ("most", "disk", 900))), ("not", ("any",))]
        wrong = [
            thing for thing in changed_once(MIXED, more_or_fewer)
            if thing not in (MIXED[:2], MIXED[::2]) and thing[-1] not in fewer
        ]
        self.tells([MIXED[:2]] + fewer, wrong)


class Lets(unittest.TestCase):
    def tells(self, rule, facts, truth):
        self.assertIs(unchanged(lets, rule, facts), truth, (rule, facts))

    def test_is(self):
        for worth in (0, 1, 999, "a", "abcdefgh"):
            self.tells(("is", "f", worth), {"f": worth}, True)
            self.tells(("is", "f", worth), {"f": worth, "g": 3}, True)
            self.tells(("is", "f", worth), {"g": worth}, False)
            self.tells(("is", "f", worth), {}, False)
            for other in (5, 998, "b", "f"):
                self.tells(("is", "f", worth), {"f": other}, False)

    def test_least_and_most(self):
        for bound in (0, 1, 500, 998, 999):
            for number in range(max(0, bound - 1), min(999, bound + 1) + 1):
                self.tells(("least", "f", bound), {"f": number}, number >= bound)
                self.tells(("most", "f", bound), {"f": number}, number <= bound)
            for kind in ("least", "most"):
                self.tells((kind, "f", bound), {}, False)
                self.tells((kind, "f", bound), {"g": bound}, False)
                self.tells((kind, "f", bound), {"f": "a"}, False)
                self.tells((kind, "f", bound), {"f": "zzzzzzzz"}, False)

    def test_not_all_and_any(self):
        yes, no = ("all",), ("any",)
        for rule, truth in (
            (yes, True), (no, False), (("not", yes), False), (("not", no), True), (("not", ("not", yes)), True),
            (("all", yes), True), (("all", no), False), (("any", yes), True), (("any", no), False),
            (("all", yes, yes, yes, no), False), (("all", no, yes, yes, yes), False), (("all", yes, yes, yes, yes), True),
            (("any", no, no, no, yes), True), (("any", yes, no, no, no), True), (("any", no, no, no, no), False),
        ):
            self.tells(rule, {}, truth)
            self.tells(rule, {"f": 1}, truth)
        self.tells(("not", ("least", "f", 3)), {}, True)
        self.tells(("not", ("is", "f", 3)), {"f": 4}, True)
        self.tells(MIXED, {"os": "linux", "disk": 3}, False)
        self.tells(MIXED, {"os": "linux", "disk": "big"}, True)
        self.tells(MIXED, {"os": "linux"}, True)
        self.tells(MIXED, {"os": "bsd"}, False)

    def test_sixteen_facts(self):
        facts = {letter: number for number, letter in enumerate("abcdefghijklmnop")}
        for letter, number in facts.items():
            self.tells(("is", letter, number), facts, True)
            self.tells(("least", letter, number + 1), facts, False)
        self.tells(("is", "q", 0), facts, False)

    def test_drawn_rules_against_a_walk(self):
        draw = random.Random(13)
        told = {True: 0, False: 0}
        for time in range(3000):
            rule = drawn(draw, 4)
            if not is_rule(rule):
                continue
            facts = {fact: draw.choice((0, 1, 2, 999, "x", "y")) for fact in "abc" if draw.random() < 0.7}
            truth = walked(rule, facts)
            told[truth] += 1
            self.tells(rule, facts, truth)
        self.assertGreater(min(told.values()), 300)


def drawn(draw, within):
    """A rule of whatever form; few have more than eight plain ones."""
    kind = draw.choice(("is", "least", "most", "not", "all", "any", "all", "any"))
    if within == 1 or kind in ("is", "least", "most"):
        kind = draw.choice(("is", "least", "most"))
        return (kind, draw.choice("abc"), draw.choice((0, 1, 2, 998, 999) + (("x", "y") if kind == "is" else ())))
    many = 1 if kind == "not" else draw.randrange(4)
    return (kind,) + tuple(drawn(draw, within - 1) for part in range(many))


def walked(rule, facts):
    """Whether a rule lets facts, by another walk."""
    kind, *parts = rule
    if kind == "not":
        return walked(parts[0], facts) is False
    if kind in ("all", "any"):
        truths = {walked(part, facts) for part in parts}
        return False not in truths if kind == "all" else True in truths
    worth = facts.get(parts[0])
    if kind == "is":
        return worth == parts[1]
    low, high = (parts[1], 999) if kind == "least" else (0, parts[1])
    return type(worth) is int and low <= worth <= high
