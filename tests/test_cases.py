"""Point 14: facts that a rule lets, papers that it lets none, and a look at such papers."""

import copy
import itertools
import random
import unittest

from farbuilds.caselooks import shows_none, shows_within
from farbuilds.cases import some, within
from farbuilds.rules import is_rule
from farbuilds.words import is_word
from tests.helpers import as_list, changed_once, more_or_fewer, nested, of_another_kind, things, unchanged
from tests.test_rules import drawn, walked

# Of the bounds that are drawn no others part the worths: each number that isn't here is like one that is.
WORTHS = (None, 0, 1, 2, 3, 500, 997, 998, 999, "x", "y", "z")
YES, NO = ("all",), ("any",)
BARRED = ("all", ("least", "a", 3), ("most", "a", 2))


def all_facts():
    """All kinds of facts over a, b and c."""
    found = []
    for worths in itertools.product(WORTHS, repeat=3):
        found.append({fact: worth for fact, worth in zip("abc", worths) if worth is not None})
    return found


FACTS = all_facts()
NUMBERS_AND_WORDS = list(range(1000)) + ["x", "y", "other"]


def drawn_rule(draw):
    while True:
        rule = drawn(draw, 4)
        if is_rule(rule):
            return rule


def are_facts(thing):
    return type(thing) is dict and len(thing) <= 16 and all(
        is_word(fact) and (is_word(worth) or type(worth) is int and 0 <= worth <= 999) for fact, worth in thing.items()
    )


def apart(row):
    """A row taken apart, one replacing at a time, as the words of point 14 go."""
    row = list(row)
    while True:
        for at, (rule, said) in enumerate(row):
            if rule[0] == "not":
                row[at:at + 1] = [(rule[1], not said)]
                break
            if (rule[0], said) in (("all", True), ("any", False)):
                row[at:at + 1] = [(part, said) for part in rule[1:]]
                break
        else:
            return row


def is_right(row, paper):
    """Whether a paper is one of a row, by all numbers and some words."""
    row = apart(row)
    if type(paper) is not tuple or len(paper) != 2:
        return False
    if paper[0] == "fact":
        rules = [(rule, said) for rule, said in row if rule[0] in ("is", "least", "most") and rule[1] == paper[1]]
        left = [{}] + [{paper[1]: worth} for worth in NUMBERS_AND_WORDS if rules]
        return not any(all(walked(rule, facts) is said for rule, said in rules) for facts in left)
    if paper[0] != "split" or type(paper[1]) is not tuple:
        return False
    places = [at for at, (rule, said) in enumerate(row) if rule[0] in ("all", "any")]
    if not places:
        return False
    at = places[0]
    rule, said = row[at]
    if len(rule) - 1 != len(paper[1]):
        return False
    return all(is_right(row[:at] + [(part, said)] + row[at + 1:], inner) for part, inner in zip(rule[1:], paper[1]))


class Some(unittest.TestCase):
    def holds(self, rule):
        told = unchanged(some, rule)
        fitting = any(walked(rule, facts) for facts in FACTS)
        self.assertEqual(told[0], "some" if fitting else "none", rule)
        self.assertEqual((type(told), len(told)), (tuple, 2))
        if fitting:
            self.assertTrue(are_facts(told[1]), told)
            self.assertTrue(walked(rule, told[1]), (rule, told))
        else:
            self.assertIs(unchanged(shows_none, rule, told[1]), True, (rule, told))
            self.assertTrue(is_right([(rule, True)], told[1]), (rule, told))
        return told[0]

    def test_each_form(self):
        plain = [("is", "a", 0), ("is", "a", 999), ("is", "a", "x"), ("least", "a", 0), ("least", "a", 999), ("most", "a", 0),
                 ("most", "a", 999), YES, NO]
        forms = plain + [("not", rule) for rule in plain]
        for rule in forms:
            self.holds(rule)
        for one, other in itertools.product(forms, repeat=2):
            for kind in ("all", "any"):
                self.holds((kind, one, other))
                self.holds(("not", (kind, one, other)))

    def test_what_no_number_is_left_of(self):
        # All but 7 are barred, then 7, too; words and no fact as well.
        seven = ("all", ("least", "a", 7), ("most", "a", 7))
        self.assertEqual(some(seven), ("some", {"a": 7}))
        self.assertEqual(some(seven + (("not", ("is", "a", 7)),))[0], "none")
        few = ("all", ("least", "a", 996), ("not", ("is", "a", 996)), ("not", ("is", "a", 997)))
        self.assertIn(some(few), [("some", {"a": number}) for number in (998, 999)])
        self.assertEqual(some(("all", few, ("not", ("any", ("is", "a", 998), ("is", "a", 999)))))[0], "none")
        self.assertEqual(some(("all", ("not", ("least", "a", 0)), ("most", "a", 999)))[0], "none")
        self.assertEqual(some(("not", ("most", "a", 999)))[0], "some")
        self.assertEqual(some(("all", ("not", ("least", "a", 1)), ("most", "a", 7))), ("some", {"a": 0}))
        self.assertEqual(some(("all", ("not", ("most", "a", 998)), ("least", "a", 7))), ("some", {"a": 999}))

    def test_a_word_that_no_rule_names(self):
        letters = ("any", ("is", "a", "a"), ("is", "a", "b"), ("is", "a", "c"), ("is", "a", "x"))
        away = ("any", ("not", ("is", "b", "a")), ("is", "a", 5))
        rule = ("all", ("not", letters), away)
        self.assertTrue(is_rule(rule))
        word, facts = some(rule)
        self.assertEqual(word, "some")
        self.assertTrue(are_facts(facts) and walked(rule, facts))

    def test_drawn_rules(self):
        draw = random.Random(14)
        words = [self.holds(drawn_rule(draw)) for time in range(250)]
        self.assertGreater(words.count("none"), 15)
        self.assertGreater(words.count("some"), 100)

    def test_drawn_rules_of_which_many_let_none(self):
        draw = random.Random(15)
        words = []
        for time in range(150):
            parts = [draw.choice((("is", "a", 1), ("least", "a", 2), ("most", "a", 0), ("is", "b", "x"), ("least", "b", 1)))
                     for part in range(8)]
            parts = [part if draw.random() < 0.6 else ("not", part) for part in parts]
            words.append(self.holds(("all", ("any", *parts[:3]), ("any", *parts[3:5]), ("not", ("all", *parts[5:7])), parts[7])))
        self.assertGreater(words.count("none"), 10)

    def test_most_there_can_be(self):
        pairs = [("any", ("is", one, 1), ("is", other, "x")) for one, other in ("ab", "cd", "ef", "gh")]
        word, facts = some(("all", *pairs))
        self.assertTrue(word == "some" and walked(("all", *pairs), facts))
        threes = ("all", ("any", ("is", "a", 1), ("is", "a", 2), ("is", "a", 3)), ("any", ("is", "a", 4), ("is", "a", 5), ("is", "a", 6)),
                  ("any", ("is", "a", 7), ("is", "a", 8)))
        word, paper = some(threes)
        self.assertEqual(word, "none")
        self.assertTrue(shows_none(threes, paper))

    def test_told_facts_are_the_askers_own(self):
        for rule in (("is", "a", 3), YES, ("all", ("is", "a", 1), ("is", "b", "x"))):
            first = some(rule)
            again = copy.deepcopy(first)
            first[1]["zed"] = 1
            first[1].pop("a", None)
            self.assertEqual(some(rule), again)


class Within(unittest.TestCase):
    def holds(self, one, other):
        told = unchanged(within, one, other)
        parting = any(walked(one, facts) and not walked(other, facts) for facts in FACTS)
        self.assertEqual(told[0], "parted" if parting else "within", (one, other))
        if parting:
            self.assertTrue(are_facts(told[1]), told)
            self.assertTrue(walked(one, told[1]) and not walked(other, told[1]), (one, other, told))
        else:
            self.assertIs(unchanged(shows_within, one, other, told[1]), True)
            self.assertTrue(is_right([(one, True), (other, False)], told[1]))
        return told[0]

    def test_few(self):
        for one, other, word in (
            (("is", "a", 3), ("least", "a", 3), "within"), (("least", "a", 3), ("is", "a", 3), "parted"),
            (("least", "a", 999), ("is", "a", 999), "within"), (("most", "a", 0), ("is", "a", 0), "within"),
            (("is", "a", "x"), ("not", ("least", "a", 0)), "within"), (YES, ("not", ("is", "a", 1)), "parted"),
            (NO, NO, "within"), (YES, YES, "within"), (YES, NO, "parted"), (NO, YES, "within"),
            (BARRED, NO, "within"), (YES, ("not", BARRED), "within"),
            (("least", "a", 1), ("any", ("is", "a", 1), ("least", "a", 2)), "within"),
            (("least", "a", 1), ("any", ("is", "a", 1), ("least", "a", 3)), "parted"),
        ):
            self.assertEqual(self.holds(one, other), word, (one, other))

    def test_drawn_rules(self):
        draw = random.Random(16)
        words = [self.holds(drawn_rule(draw), drawn_rule(draw)) for time in range(200)]
        words += [self.holds(rule, rule) for rule in [drawn_rule(draw) for time in range(50)]]
        self.assertGreater(words.count("within"), 60)
        self.assertGreater(words.count("parted"), 60)

    def test_sixteen_facts(self):
        pairs = [("any", ("is", one, 1), ("is", other, "x")) for one, other in ("ab", "cd", "ef", "gh")]
        others = [("all", ("least", one, 1), ("most", other, 7)) for one, other in ("ij", "kl", "mn", "op")]
        word, facts = within(("all", *pairs), ("any", *others))
        self.assertEqual(word, "parted")
        self.assertTrue(are_facts(facts) and walked(("all", *pairs), facts) and not walked(("any", *others), facts))
        word, paper = within(("all", *pairs), ("all", *pairs))
        self.assertEqual(word, "within")
        self.assertTrue(shows_within(("all", *pairs), ("all", *pairs), paper))

    def test_told_facts_are_the_askers_own(self):
        first = within(("is", "a", 3), NO)
        self.assertEqual(first, ("parted", {"a": 3}))
        first[1].clear()
        self.assertEqual(within(("is", "a", 3), NO), ("parted", {"a": 3}))


class Looks(unittest.TestCase):
    def tells(self, rule, right, wrong):
        for paper in right:
            self.assertIs(unchanged(shows_none, rule, paper), True, (rule, paper))
        for paper in wrong:
            self.assertIs(unchanged(shows_none, rule, paper), False, (rule, paper))

    def test_by_hand(self):
        fact_a, fact_b, none = ("fact", "a"), ("fact", "b"), ("split", ())
        self.tells(NO, [none], [fact_a, ("split", (fact_a,)), ("split", (none,))])
        self.tells(YES, [], [none, fact_a])
        self.tells(("not", YES), [none], [fact_a])
        self.tells(("not", NO), [], [none, fact_a])
        self.tells(BARRED, [fact_a], [fact_b, none, ("split", (fact_a,)), ("split", (fact_a, fact_a))])
        self.tells(("all", NO, BARRED), [none, fact_a], [fact_b, ("split", (none,))])
        self.tells(("any", BARRED, NO), [("split", (fact_a, none))], [
            fact_a, none, ("split", (none, fact_a)), ("split", (fact_a,)), ("split", (none,)), ("split", (fact_a, none, none)),
            ("split", (fact_a, fact_a)), ("split", (none, none)), ("split", [fact_a, none]), ["split", (fact_a, none)],
        ])

    def test_the_first_that_can_be_split_is(self):
        # The first any has two parts, the denied all behind it three; both must be gone through, in this order.
        rule = ("all", ("any", ("is", "a", 1), ("is", "a", 2)), ("not", ("all", ("is", "a", 1), ("is", "a", 1), ("is", "a", 1))),
                ("not", ("is", "a", 2)))
        fact = ("fact", "a")
        three = ("split", (fact, fact, fact))
        self.tells(rule, [("split", (three, three)), ("split", (three, fact))], [
            ("split", (("split", (fact, fact)),) * 3), three, fact, ("split", (fact, fact)), ("split", (fact, three)),
            ("split", (three,)), ("split", (("split", (fact, fact)), fact)),
        ])

    def test_facts_of_parts_that_still_stand_do_not_count(self):
        rule = ("any", ("is", "a", 1), ("is", "a", 2))
        self.tells(("all", rule, ("is", "a", 3)), [("split", (("fact", "a"), ("fact", "a")))], [("fact", "a")])

    def test_within_by_hand(self):
        one, other = ("is", "a", 3), ("any", ("is", "b", 1), ("least", "a", 3))
        for paper, truth in (
            (("fact", "a"), True), (("fact", "b"), False), (("split", ()), False), (("split", (("fact", "a"),)), False),
        ):
            self.assertIs(unchanged(shows_within, one, other, paper), truth)
            self.assertIs(shows_within(other, one, paper), False)
        split = ("split", (("fact", "a"), ("fact", "a")))
        self.assertIs(shows_within(one, ("all", ("least", "a", 1), ("most", "a", 5)), split), True)
        self.assertIs(shows_within(one, ("all", ("least", "a", 1), ("most", "a", 2)), split), False)

    def papers(self):
        """Rules that let none, with papers that were told."""
        draw = random.Random(17)
        found = []
        while len(found) < 25:
            rule = drawn_rule(draw)
            word, paper = some(rule)
            if word == "none":
                found.append((rule, paper))
        return found + [(rule, some(rule)[1]) for rule in (
            ("all", ("any", BARRED, NO, BARRED), ("is", "b", 3)), ("any", BARRED, BARRED), ("not", ("any", YES, BARRED)),
            ("all", ("any", ("is", "a", 1), ("is", "b", 1)), ("any", ("is", "a", 2), ("is", "b", 2)), ("not", ("is", "a", 1)),
             ("not", ("is", "b", 1))),
        )]

    def test_one_thing_otherwise(self):
        many = 0
        for rule, paper in self.papers():
            self.assertIs(shows_none(rule, paper), True)
            for other in changed_once(paper, others_of_a_paper):
                truth = unchanged(shows_none, rule, other)
                self.assertIs(truth, is_right([(rule, True)], other), (rule, other))
                many += 1
            for other in changed_once(paper, as_list) + changed_once(paper, more_or_fewer):
                self.assertIs(unchanged(shows_none, rule, other), False, (rule, other))
            for other in changed_once(paper, of_another_kind):
                if other != ("split", ()) or not is_right([(rule, True)], other):
                    self.assertIs(shows_none(rule, other), False, (rule, other))
        self.assertGreater(many, 200)

    def test_papers_of_another_rule(self):
        truths = []
        for (rule, paper), (other, other_paper) in itertools.product(self.papers(), repeat=2):
            truths.append(shows_none(rule, other_paper))
            self.assertIs(truths[-1], is_right([(rule, True)], other_paper))
            within_truth = shows_within(rule, other, other_paper)
            self.assertIs(within_truth, is_right([(rule, True), (other, False)], other_paper))
        self.assertGreater(truths.count(False), 50)

    def test_rules_that_let_some_have_no_paper(self):
        papers = [paper for rule, paper in self.papers()]
        for rule in (YES, ("is", "a", 1), ("any", NO, YES), ("not", BARRED), ("any", BARRED, ("is", "b", 1))):
            self.tells(rule, [], papers)

    def test_of_anything(self):
        deep = [
            nested(lambda thing: (thing,), 100), nested(lambda thing: [thing], 100), nested(lambda thing: {"a": thing}, 100),
            nested(lambda thing: ("split", (thing,)), 50), nested(lambda thing: ("split", thing), 100),
            nested(lambda thing: ("split", [thing]), 50), nested(lambda thing: ("fact", thing), 100),
            nested(lambda thing: ("split", (thing, thing)), 12),
        ]
        for rule in (NO, YES, BARRED, ("any", NO), ("any", BARRED, NO), wrapped_any(3)):
            for thing in things() + deep:
                for paper in (thing, ("fact", thing), ("split", thing), ("split", (thing,)), (thing, "a"), ("split", ("fact", thing))):
                    truth = paper == ("split", ()) and rule == NO or paper == ("fact", "a") and rule == BARRED
                    self.assertIs(unchanged(shows_none, rule, paper), truth, (rule, paper))
                    self.assertIs(shows_within(rule, NO, paper), truth, (rule, paper))

    def test_deep_papers_of_rules_of_single_parts(self):
        rule = wrapped_any(3)
        right = ("split", (("split", (("split", (("fact", "a"),)),)),))
        self.tells(("all", ("is", "a", 1), ("any", ("any", ("is", "a", 2)))), [right[1][0]], [right, right[1][0][1][0], ("fact", "a")])
        self.assertEqual(some(rule)[0], "some")


def wrapped_any(times):
    rule = ("is", "a", 2)
    for time in range(times):
        rule = ("any", rule)
    return rule


def others_of_a_paper(thing):
    """Other papers in the place of a paper, another row of papers in the place of one."""
    if not isinstance(thing, tuple):
        return []
    if thing[:1] == ("fact",):
        others = [("fact", "a"), ("fact", "b"), ("fact", "c"), ("fact", "d"), ("split", ()), ("split", (thing,)), ("split", (thing, thing))]
        return [other for other in others if other != thing]
    if thing[:1] == ("split",):
        return [("fact", "a"), ("fact", "b"), ("split", (thing,)), ("fact", thing[1])]
    others = [thing[::-1], thing + thing[:1], thing[:1] + thing, thing[:-1], thing[1:], thing[1:] + thing[:1]]
    return [other for other in others if other != thing]
