"""Point 8: least steps and papers that bar less; "Least" of point 4."""

import itertools
import random
import unittest

from farbuilds.least import least
from farbuilds.leastlooks import bars_less
from farbuilds.steps import cost_of, written
from tests.helpers import single_steps, things, unchanged

UNLIKE = tuple(one + other for one in "abcdefgh" for other in "abcdefgh")[:60]


def searched(old, row, place):
    """The least cost by trying each row of steps there is."""
    if place == len(row):
        return 0
    return min(cost_of((step,)) + searched(old, row, end) for step, end in single_steps(old, row, place))


def searched_by_places(old, row):
    """The least cost from each place on, for rows too long to try each row of steps from its beginning."""
    costs = [0] * (len(row) + 1)
    for place in reversed(range(len(row))):
        costs[place] = min(cost_of((step,)) + costs[end] for step, end in single_steps(old, row, place))
    return costs


def barred(old, row, paper, number, start):
    """Whether a list of numbers bars less, by each step there is."""
    if paper[start] < number or paper[-1] > 0:
        return False
    return all(
        paper[place] <= paper[end] + cost_of((step,))
        for place in range(start, len(row)) for step, end in single_steps(old, row, place)
    )


def rows_to(most, signs="ab"):
    """All rows of none to so many items."""
    return [row for many in range(most + 1) for row in itertools.product(signs, repeat=many)]


def chance_pair(chance, most):
    """An old row and a row that has something of it."""
    signs = chance.choice((("a", "b"), ("a", "b", "=c"), ("a", "b", "c", "d", "=e", "f")))
    old = tuple(chance.choice(signs) for times in range(chance.randrange(most + 1)))
    row = ()
    while len(row) < most and chance.randrange(8):
        at = chance.randrange(len(old) + 1)
        row += chance.choice((old[at:at + chance.randrange(1, 9)], row[at:at + 3] * 2, (chance.choice(signs),)))
    return old, row[:most]


class Least(unittest.TestCase):
    def holds(self, old, row, start):
        """Look at all that is promised of one answer but that its cost is the least one; tell the cost."""
        told = unchanged(least, old, row, start=start)
        self.assertIs(type(told), tuple)
        cost, steps, paper = told
        self.assertIs(type(steps), tuple)
        self.assertIs(type(paper), list)
        self.assertEqual(len(paper), len(row) + 1)
        self.assertEqual(written(old, row[:start], steps), row)
        self.assertEqual(cost_of(steps), cost)
        self.assertIs(unchanged(bars_less, old, row, paper, cost, start=start), True)
        self.assertIs(bars_less(old, row, paper, cost + 1, start=start), False)
        return cost

    def test_against_a_search_through_all_steps(self):
        for old, row in itertools.product(rows_to(3), rows_to(5)):
            for start in range(len(row) + 1):
                self.assertEqual(self.holds(old, row, start), searched(old, row, start), (old, row, start))

    def test_against_a_search_on_longer_rows(self):
        chance = random.Random(8)
        for times in range(200):
            old, row = chance_pair(chance, 16)
            costs = searched_by_places(old, row)
            for start in range(len(row) + 1):
                self.assertEqual(self.holds(old, row, start), costs[start], (old, row, start))

    def test_hand_reckoned(self):
        self.assertEqual(least((), ())[:2], (0, ()))
        self.assertEqual(least(("a",), ())[:2], (0, ()))
        self.assertEqual(least((), ("a",))[:2], (2, (("new", ("a",)),)))
        self.assertEqual(least(("a",), ("a",))[:2], (2, (("new", ("a",)),)))
        self.assertEqual(least(("a", "b", "c"), ("a", "b", "c"))[:2], (3, (("old", 0, 3),)))
        self.assertEqual(least(("x", "a", "b", "c", "d"), ("a", "b", "c", "d"))[:2], (3, (("old", 1, 4),)))
        self.assertEqual(least((), ("a", "b", "a", "b", "a", "b"))[0], 6)
        self.assertEqual(least((), ("a", "b", "a", "b", "a", "b"), start=2)[:2], (3, (("own", 0, 4),)))
        self.assertEqual(least(("a", "b"), ("a", "b"), start=2)[:2], (0, ()))

    def test_the_empty_row_has_a_paper_of_one_place(self):
        for old in ((), ("a",), UNLIKE):
            self.assertEqual(self.holds(old, (), 0), 0)

    def test_rows_of_sixty_items(self):
        for start in range(61):
            same = self.holds((), ("a",) * 60, start)
            self.assertEqual(same, 5 if start == 0 else {60: 0, 59: 2}.get(start, 3))
            unlike = self.holds((), UNLIKE, start)
            self.assertEqual(unlike, 61 - start if start < 60 else 0)
            copied = self.holds(UNLIKE, UNLIKE, start)
            self.assertEqual(copied, {60: 0, 59: 2}.get(start, 3))
            self.assertEqual(self.holds(UNLIKE[::-1], UNLIKE, start), unlike)
        self.assertEqual(self.holds(("a",), ("a",) * 60, 0), 5)
        self.assertEqual(self.holds(("a",) * 30, ("a",) * 60, 0), 5)

    def test_no_start_is_the_first_place(self):
        old, row = ("a", "b", "c"), ("b", "c", "a", "b", "c", "x")
        self.assertEqual(least(old, row), least(old, row, start=0))
        cost, steps, paper = least(old, row)
        self.assertIs(bars_less(old, row, paper, cost), True)
        self.assertIs(bars_less(old, row, paper, cost + 1), False)
        self.assertRaises(TypeError, least, old, row, 0)
        self.assertRaises(TypeError, bars_less, old, row, paper, cost, 0)

    def test_no_steps_tried_are_cheaper(self):
        chance = random.Random(4)
        for times in range(100):
            old = chance_pair(chance, 60)[0]
            row, steps = (), ()
            while len(row) < 60 and chance.randrange(12):
                step = chance.choice((
                    ("old", chance.randrange(len(old) + 1), chance.randrange(1, 20)),
                    ("own", chance.randrange(len(row) + 1), chance.randrange(1, 20)),
                    ("new", tuple(chance.choice("abc") for count in range(chance.randrange(1, 4)))),
                ))
                reaches = step[0] == "old" and step[1] + step[2] > len(old) or step[0] == "own" and step[1] >= len(row)
                if not reaches and len(row) + (len(step[1]) if step[0] == "new" else step[2]) <= 60:
                    row, steps = written(old, row, (step,)), steps + (step,)
            for many in range(len(steps) + 1):
                start = len(written(old, (), steps[:many]))
                self.assertLessEqual(least(old, row, start=start)[0], cost_of(steps[many:]))
            self.holds(old, row, chance.randrange(len(row) + 1))

    def test_lists_are_the_askers_own(self):
        old, row = ("a", "b", "c"), ("a", "b", "c", "d")
        first = least(old, row)
        paper = list(first[2])
        first[2].clear()
        self.assertEqual(least(old, row)[2], paper)


class Papers(unittest.TestCase):
    OLD, ROW = ("a", "b", "c", "d"), ("b", "c", "d", "b", "c", "d", "x")

    def looked(self, paper, number, start):
        return unchanged(bars_less, self.OLD, self.ROW, paper, number, start=start)

    def test_a_little_more_or_less_at_each_place(self):
        # The other end of each bar is looked at, too: less at a place may bar no more what goes to it.
        seen = set()
        for start, place, more in itertools.product(range(8), range(8), (-10 ** 59, -2, -1, 0, 1, 2, 10 ** 59)):
            cost, steps, paper = least(self.OLD, self.ROW, start=start)
            paper[place] += more
            for number in range(cost - 2, cost + 3):
                told = self.looked(paper, number, start)
                self.assertIs(told, barred(self.OLD, self.ROW, paper, number, start), (start, paper, number))
                seen.add((told, place < start, more > 0))
        self.assertIn((True, False, False), seen)
        self.assertIn((False, False, True), seen)

    def test_numbers_ahead_of_start_do_not_matter(self):
        for start in range(8):
            cost, steps, paper = least(self.OLD, self.ROW, start=start)
            for wild in (10 ** 59, -(10 ** 59), 0, -1):
                self.assertIs(self.looked([wild] * start + paper[start:], cost, start), True)
                self.assertIs(self.looked([wild] * start + paper[start:], cost + 1, start), False)

    def test_but_they_are_whole_numbers(self):
        cost, steps, paper = least(self.OLD, self.ROW, start=3)
        for wrong in (True, False, "1", "", None, (1,), [1], {}):
            for place in range(8):
                self.assertIs(self.looked(paper[:place] + [wrong] + paper[place + 1:], cost, 3), False)
                self.assertIs(self.looked(paper[:place] + [wrong] + paper[place + 1:], -10 ** 59, 3), False)

    def test_truths_in_the_place_of_their_numbers(self):
        self.assertIs(bars_less(("a",), (), [0], 0), True)
        self.assertIs(bars_less(("a",), (), [False], 0), False)
        self.assertIs(bars_less((), ("a",), [1, 0], 1), True)
        self.assertIs(bars_less((), ("a",), [True, 0], 1), False)

    def test_of_wrong_length_or_kind(self):
        cost, steps, paper = least(self.OLD, self.ROW)
        for thing in things() + [paper[1:], paper[:-1], paper + [0], [0] + paper, tuple(paper), dict(enumerate(paper))]:
            for start in (0, 4, 7):
                self.assertIs(self.looked(thing, cost, start), False, thing)
                self.assertIs(self.looked(thing, -10 ** 59, start), False, thing)

    def test_of_anything_at_the_empty_row(self):
        for thing in things():
            if thing != [0] or isinstance(thing[0], bool):
                self.assertIs(bars_less((), (), thing, 0), False, thing)

    def test_below_nought_and_of_sixty_figures(self):
        low = -(10 ** 60 - 1)
        self.assertIs(self.looked([low] * 8, low, 0), True)
        self.assertIs(self.looked([low] * 8, low + 1, 0), False)
        self.assertIs(self.looked([0] * 8, 0, 0), True)
        self.assertIs(self.looked([0] * 8, 1, 0), False)
        self.assertIs(self.looked([0] * 8, -10 ** 59, 0), True)
        self.assertIs(self.looked([10 ** 59] * 8, 1, 0), False)
        self.assertIs(self.looked([0] * 7 + [low], 0, 0), False)
        self.assertIs(self.looked([0] * 7 + [1], 0, 0), False)
        self.assertIs(self.looked([0] * 7 + [0], 0, 7), True)
        self.assertIs(self.looked([0] * 7 + [1], 0, 7), False)

    def test_by_none_for_one_more(self):
        for old, row in itertools.product(rows_to(2)[::2], rows_to(2) + [("a", "b", "a")]):
            for start in range(len(row) + 1):
                cost = least(old, row, start=start)[0]
                for paper in itertools.product(range(-1, cost + 3), repeat=len(row) + 1):
                    self.assertIs(bars_less(old, row, list(paper), cost + 1, start=start), False)

    def test_against_each_step(self):
        chance = random.Random(88)
        for times in range(1500):
            old, row = chance_pair(chance, 12)
            start = chance.randrange(len(row) + 1)
            cost, steps, paper = least(old, row, start=start)
            paper = [number + chance.choice((0, 0, 0, 0, -1, 1, -2)) for number in paper]
            for number in (cost - 1, cost, cost + 1):
                expected = barred(old, row, paper, number, start)
                self.assertIs(bars_less(old, row, paper, number, start=start), expected)
