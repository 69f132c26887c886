"""Points 32 to 34: logs, their heads and papers, the lookers, and what a wrong paper that is let by gives away."""

import copy
import random
import unittest

from farbuilds.errors import NoPlace
from farbuilds.log import Log
from farbuilds.loglooks import dug_begun, dug_in, is_begun, is_in
from farbuilds.sums import has_sum, sum_of
from tests.helpers import asked, nested, refusal, things, unchanged

MANY = 30
THINGS = [("x", n) for n in range(MANY - 6)] + [None, 0, -1, "", (), "a\nb"]
ODD = [thing for thing in things() if repr(thing) not in ("None", "0", "-1", "''", "()")]


def log_of(row):
    log = Log()
    for thing in row:
        log.add(thing)
    return log


def plain_root(row):
    """The root, read off point 32."""
    if len(row) == 0:
        return sum_of(("none",))
    if len(row) == 1:
        return sum_of(("leaf", row[0]))
    first = max(2 ** power for power in range(9) if 2 ** power < len(row))
    return sum_of(("node", plain_root(row[:first]), plain_root(row[first:])))


def plain_paper(row, number):
    if len(row) == 1:
        return []
    first = max(2 ** power for power in range(9) if 2 ** power < len(row))
    if number < first:
        return plain_paper(row[:first], number) + [plain_root(row[first:])]
    return plain_paper(row[first:], number - first) + [plain_root(row[:first])]


def plain_begun(row, few, in_second=False):
    if few == len(row):
        return [plain_root(row)] if in_second else []
    first = max(2 ** power for power in range(9) if 2 ** power < len(row))
    if few <= first:
        return plain_begun(row[:first], few, in_second) + [plain_root(row[first:])]
    return plain_begun(row[first:], few - first, True) + [plain_root(row[:first])]


def wrong_papers(paper):
    """Papers like this one but with a sum otherwise, more, fewer, two exchanged, or of another form."""
    found = [paper + [0], [0] + paper, paper + paper[-1:] if paper else [5], tuple(paper), None]
    for at, part in enumerate(paper):
        others = ((part + 1) % 997, (part - 1) % 997, part + 997, part - 997, -1, None, str(part), [part], part == 1)
        found.extend(paper[:at] + [other] + paper[at + 1:] for other in others)
        found.append(paper[:at] + paper[at + 1:])
    for at in range(len(paper) - 1):
        if paper[at] != paper[at + 1]:
            found.append(paper[:at] + [paper[at + 1], paper[at]] + paper[at + 2:])
    return found


class Logs(unittest.TestCase):
    def test_as_it_is_made(self):
        log = Log()
        self.assertEqual((len(log), log.things(), log.head()), (0, [], (0, sum_of(("none",)))))
        self.assertEqual(log.head()[1], 597)

    def test_add_tells_the_number(self):
        log = Log()
        for nth, thing in enumerate(THINGS):
            self.assertEqual(unchanged(log.add, thing), nth)
            self.assertEqual((len(log), log.things()), (nth + 1, THINGS[:nth + 1]))

    def test_equal_by_their_things(self):
        for many in range(5):
            self.assertTrue(log_of(THINGS[:many]) == log_of(THINGS[:many]))
            self.assertFalse(log_of(THINGS[:many]) != log_of(THINGS[:many]))
            self.assertFalse(log_of(THINGS[:many]) == log_of(THINGS[:many + 1]))
        self.assertFalse(log_of(["a", "b"]) == log_of(["b", "a"]))
        for thing in things() + [THINGS[:3], tuple(THINGS[:3])]:
            self.assertIs(log_of(THINGS[:3]) == thing, False)
            self.assertIs(log_of([]) == thing, False)

    def test_of_one_sum_but_unlike(self):
        one, other = of_one_sum(0, 1)
        self.assertEqual(log_of([one]).head(), log_of([other]).head())
        self.assertFalse(log_of([one]) == log_of([other]))

    def test_heads(self):
        log = log_of(THINGS)
        self.assertEqual(log.head(), (MANY, plain_root(THINGS)))
        for count in range(MANY + 1):
            self.assertEqual(asked(log.head, count=count), (count, plain_root(THINGS[:count])))
            self.assertEqual(log_of(THINGS[:count]).head(), (count, plain_root(THINGS[:count])))

    def test_papers(self):
        log = log_of(THINGS)
        for count in range(1, MANY + 1):
            for number in range(count):
                expected = plain_paper(THINGS[:count], number)
                self.assertEqual(asked(log.paper, number, count=count), expected)
                self.assertIs(is_in(log.head(count=count), number, THINGS[number], expected), True)
        self.assertEqual(log.paper(3), plain_paper(THINGS, 3))
        self.assertEqual(log_of(["a"]).paper(0), [])

    def test_papers_of_beginnings(self):
        log = log_of(THINGS)
        for count in range(1, MANY + 1):
            for few in range(1, count + 1):
                expected = plain_begun(THINGS[:count], few)
                self.assertEqual(asked(log.begun, few, count=count), expected)
                self.assertIs(is_begun(log.head(count=few), log.head(count=count), expected), True)
        self.assertEqual(log.begun(7), plain_begun(THINGS, 7))
        self.assertEqual(log.begun(MANY), [])

    def test_no_place(self):
        for count in (0, 1, 2, 5, MANY):
            log = log_of(THINGS[:count])
            for number in (-1, -count, count, count + 1, 10 ** 59, -(10 ** 59)):
                if not 0 <= number < count:
                    self.assertEqual(refusal(NoPlace, log.paper, number).number, number)
            for few in (-1, 0, count + 1, 10 ** 59):
                self.assertEqual(refusal(NoPlace, log.begun, few).number, few)
        log = log_of(THINGS)
        with self.assertRaises(NoPlace) as caught:
            log.paper(4, count=4)
        self.assertEqual(caught.exception.number, 4)
        with self.assertRaises(NoPlace) as caught:
            log.begun(5, count=4)
        self.assertEqual(caught.exception.number, 5)
        self.assertRaises(NoPlace, lambda: log.paper(0, count=0))
        self.assertEqual(log, log_of(THINGS))

    def test_lists_are_the_askers_own(self):
        log = log_of(THINGS)
        for ask in (log.things, lambda: log.paper(3), lambda: log.begun(3)):
            first = ask()
            again = copy.deepcopy(first)
            first.clear()
            self.assertEqual(ask(), again)
        self.assertEqual(log, log_of(THINGS))


class Lookers(unittest.TestCase):
    def test_wrong_papers_of_things(self):
        log = log_of(THINGS)
        for count in (1, 2, 3, 5, 8, 13, 30):
            head = log.head(count=count)
            for number in range(count):
                right = log.paper(number, count=count)
                for paper in wrong_papers(right):
                    told = unchanged(is_in, head, number, THINGS[number], paper)
                    self.assertIs(told, self.comes_out(head, number, THINGS[number], paper))
                    self.assertIs(told, False)

    def comes_out(self, head, number, thing, paper):
        """Whether the root comes out, put together as point 33 says."""
        if type(paper) is not list or not all(type(part) is int and 0 <= part < 997 for part in paper):
            return False

        def root(number, count, paper):
            if count == 1:
                return sum_of(("leaf", thing)) if not paper else None
            if not paper:
                return None
            first = max(2 ** power for power in range(9) if 2 ** power < count)
            if number < first:
                half = root(number, first, paper[:-1])
                return None if half is None else sum_of(("node", half, paper[-1]))
            half = root(number - first, count - first, paper[:-1])
            return None if half is None else sum_of(("node", paper[-1], half))

        return root(number, head[0], paper) == head[1]

    def test_wrong_things_numbers_and_heads(self):
        log = log_of(THINGS)
        for count in (1, 2, 6, 11):
            count_head = log.head(count=count)
            for number in range(count):
                paper = log.paper(number, count=count)
                for other in range(-2, count + 3):
                    told = is_in(count_head, other, THINGS[number], paper)
                    self.assertIs(told, 0 <= other < count and self.comes_out(count_head, other, THINGS[number], paper))
                    self.assertFalse(told and other != number)
                for thing in (("x", number + 500), ("y", number), [THINGS[number]], True, ("x", True)):
                    self.assertIs(is_in(count_head, number, thing, paper), False)
                for head in ((count + 1, count_head[1]), (0, count_head[1]), (count, (count_head[1] + 1) % 997)):
                    self.assertIs(is_in(head, number, THINGS[number], paper), self.comes_out_of(head, number, paper))
        for number in (0, 1, -1):
            self.assertIs(is_in(Log().head(), number, "a", []), False)

    def comes_out_of(self, head, number, paper):
        return number < head[0] and self.comes_out(head, number, THINGS[number], paper)

    def test_of_anything(self):
        log = log_of(["a", "b", "c"])
        self.assertIs(is_in(log.head(), 1, "b", log.paper(1)), True)
        for thing in ODD:
            if thing != "b":
                self.assertIs(unchanged(is_in, log.head(), 1, thing, log.paper(1)), False, thing)
            self.assertIs(unchanged(is_in, log.head(), 1, "b", thing), False)
            self.assertIs(unchanged(is_begun, log.head(count=2), log.head(), thing), False)
            self.assertIsNone(unchanged(dug_in, log, 1, thing, log.paper(1)))
            self.assertIsNone(unchanged(dug_in, log, 1, "b", thing))
            self.assertIsNone(unchanged(dug_begun, log_of(["a", "b"]), log, thing))

    def test_truths_are_no_numbers(self):
        # Things and papers in which a truth stands for a number of the same worth.
        for worth in (0, 1):
            log = log_of([worth, ("a", worth)])
            self.assertIs(is_in(log.head(), 0, worth, log.paper(0)), True)
            self.assertIs(is_in(log.head(), 0, worth == 1, log.paper(0)), False)
            self.assertIs(is_in(log.head(), 1, ("a", worth == 1), log.paper(1)), False)
            self.assertIsNone(dug_in(log, 0, worth == 1, log.paper(0)))
            beside = next(thing for thing in range(997) if sum_of(("leaf", thing)) == worth)
            log = log_of(["b", beside])
            self.assertEqual(log.paper(0), [worth])
            self.assertIs(is_in(log.head(), 0, "b", [worth == 1]), False)
            self.assertIs(is_in(log.head(), 0, "b", [worth]), True)
            # By what it sums up to it would come out, but it is no sum.
            self.assertIs(is_in(log.head(), 0, "b", [worth + 997]), False)
            self.assertIs(is_begun(log.head(count=1), log.head(), [worth + 997]), False)
            self.assertIs(is_begun(log.head(count=1), log.head(), [worth]), True)
            self.assertIs(is_begun(log.head(count=1), log.head(), [worth == 1]), False)

    def test_what_has_a_sum(self):
        for thing in (None, 0, -5, 10 ** 59, "", "a", (), ((), (None, ("a", 3))), nested(lambda thing: (thing,), 12)):
            self.assertIs(unchanged(has_sum, thing), True)
            log = log_of([thing])
            self.assertIs(is_in(log.head(), 0, thing, []), True)
        for thing in (True, False, [], {}, [1], {"a": 1}, (True,), ("a", []), ((("a", {}),),), nested(lambda thing: [thing], 12)):
            self.assertIs(unchanged(has_sum, thing), False)
            self.assertIs(is_in((1, 5), 0, thing, []), False)

    def test_wrong_papers_of_beginnings(self):
        log = log_of(THINGS)
        for count in (1, 2, 3, 6, 8, 13, 30):
            for few in range(1, count + 1):
                heads = log.head(count=few), log.head(count=count)
                for paper in wrong_papers(log.begun(few, count=count)):
                    self.assertIs(unchanged(is_begun, *heads, paper), False)

    def test_beginnings_of_wrong_heads(self):
        log = log_of(THINGS)
        for count in (1, 2, 5, 8, 12):
            for few in range(1, count + 1):
                paper = log.begun(few, count=count)
                one, other = log.head(count=few), log.head(count=count)
                wrong = [
                    ((few, (one[1] + 1) % 997), other), (one, (count, (other[1] + 1) % 997)), ((0, one[1]), other),
                    ((count + 1, one[1]), other), (one, (0, other[1])), ((-1, one[1]), other),
                ]
                for heads in wrong:
                    self.assertIs(is_begun(*heads, paper), False, (heads, paper))
        self.assertIs(is_begun(Log().head(), log.head(), []), False)
        self.assertIs(is_begun(Log().head(), Log().head(), []), False)
        self.assertIs(is_begun((3, 5), (3, 5), []), True)
        self.assertIs(is_begun((3, 5), (3, 6), []), False)

    def test_another_log_is_no_beginning(self):
        log = log_of(THINGS)
        for few in range(1, 12):
            for at in range(few):
                other = log_of(THINGS[:at] + [("other", at)] + THINGS[at + 1:few])
                for count in range(few, 14):
                    paper = log.begun(few, count=count)
                    told = is_begun(other.head(), log.head(count=count), paper)
                    self.assertIs(told, other.head() == log.head(count=few))

    def test_heads_of_great_counts(self):
        self.assertIs(is_in((10 ** 59, 5), 10 ** 58, "a", []), False)
        self.assertIs(is_in((10 ** 59, 5), 10 ** 59, "a", []), False)
        self.assertIs(is_begun((10 ** 58, 5), (10 ** 59, 5), []), False)


def of_one_sum(first, nth):
    """Two unlike things of one sum: numbers 997 apart."""
    return (first, nth), (first + 997, nth)


class Dug(unittest.TestCase):
    def is_dug(self, told):
        """Two unlike things of one sum, each a leaf or a node."""
        self.assertIs(type(told), tuple)
        one, other = told
        self.assertNotEqual(one, other)
        self.assertEqual(sum_of(one), sum_of(other))
        for thing in told:
            self.assertIn((thing[0], len(thing)), (("leaf", 2), ("node", 3)))
            if thing[0] == "node":
                self.assertTrue(all(type(part) is int and 0 <= part < 997 for part in thing[1:]))

    def test_a_wrong_leaf(self):
        for count in range(1, 14):
            row = [(n, "t") for n in range(count)]
            log = log_of(row)
            for number in range(count):
                wrong = of_one_sum(number, "t")[1]
                paper = log.paper(number)
                self.assertIs(is_in(log.head(), number, wrong, paper), True)
                told = unchanged(dug_in, log, number, wrong, paper)
                self.is_dug(told)
                self.assertEqual({told[0], told[1]}, {("leaf", row[number]), ("leaf", wrong)})
                # Of the right thing, of another number and of a wrong paper there is nothing to dig.
                self.assertIsNone(dug_in(log, number, row[number], paper))
                self.assertIsNone(dug_in(log, count, wrong, paper))
                self.assertIsNone(dug_in(log, -1, wrong, paper))
                self.assertIsNone(dug_in(log, number, wrong, paper + [3]))

    def test_a_wrong_node(self):
        # Wrong things with papers, one sum of which is such that the root comes out.
        for count in range(2, 12):
            log = log_of([(n, "t") for n in range(count)])
            for number in range(count):
                for time in range(4):
                    thing, paper = forged(random.Random(f"{count} {number} {time}"), log, number)
                    self.assertIs(is_in(log.head(), number, thing, paper), True)
                    self.is_dug(dug_in(log, number, thing, paper))

    def test_the_right_thing_by_a_wrong_paper(self):
        # The root comes out by other sums, though the thing is right: that isn't of a wrong thing.
        log = log_of(["a", "b", "c", "d"])
        for low in range(1, 60):
            paper = [(log.paper(0)[0] + low) % 997, 0]
            paper[1] = solved(lambda last: root_by(0, 4, "a", [paper[0], last]), log.head()[1])
            self.assertIs(is_in(log.head(), 0, "a", paper), True)
            self.assertIsNone(dug_in(log, 0, "a", paper))

    def test_a_wrong_beginning_of_one_root(self):
        for count in range(1, 13):
            other = log_of([(n, "t") for n in range(count)])
            for few in range(1, count + 1):
                self.assertIsNone(dug_begun(log_of(other.things()[:few]), other, other.begun(few)))
                for at in range(few):
                    row = other.things()[:few]
                    row[at] = of_one_sum(at, "t")[1]
                    log = log_of(row)
                    paper = other.begun(few)
                    self.assertIs(is_begun(log.head(), other.head(), paper), True)
                    told = unchanged(dug_begun, log, other, paper)
                    self.is_dug(told)
                    self.assertEqual({told[0], told[1]}, {("leaf", row[at]), ("leaf", other.things()[at])})
                    self.assertIsNone(dug_begun(log, other, paper + [1]))

    def test_a_wrong_beginning_by_things_of_the_same_root(self):
        for few in range(1, 8):
            for count in range(few, 11):
                draw = random.Random(f"{few} {count}")
                other = log_of([("o", draw.randrange(10 ** 6)) for nth in range(count)])
                row = [("m", draw.randrange(10 ** 6)) for nth in range(few - 1)]
                last = solved(lambda worth: plain_root(row + [("m", worth)]), other.head(count=few)[1])
                log, paper = log_of(row + [("m", last)]), other.begun(few)
                self.assertIs(is_begun(log.head(), other.head(), paper), True)
                self.is_dug(dug_begun(log, other, paper))

    def test_a_wrong_beginning_by_made_up_sums(self):
        found = 0
        for few in range(1, 9):
            for count in range(few + 1, 12):
                for time in range(3):
                    draw = random.Random(f"{few} {count} {time}")
                    log = log_of([("m", draw.randrange(10 ** 6)) for nth in range(few)])
                    # Also one that begins as the other does, but for its last thing.
                    ahead = log.things()[:-1] if time == 2 else [("o", 0)] * (few - 1)
                    other = log_of(ahead + [("o", draw.randrange(10 ** 6)) for nth in range(count - few + 1)])
                    paper = forged_begun(draw, log, other)
                    if paper is not None:
                        self.assertIs(is_begun(log.head(), other.head(), paper), True)
                        self.is_dug(dug_begun(log, other, paper))
                        found += 1
                        # Of a right beginning a made-up paper, too, shows nothing wrong.
                        right = log_of(log.things() + other.things()[few:])
                        paper = forged_begun(draw, log, right)
                        self.assertIs(is_begun(log.head(), right.head(), paper), True)
                        self.assertIsNone(dug_begun(log, right, paper))
        self.assertGreater(found, 60)

    def test_longer_than_the_other_or_none(self):
        log = log_of(["a", "b", "c"])
        self.assertIsNone(dug_begun(log, log_of(["a", "b"]), []))
        self.assertIsNone(dug_begun(Log(), log, []))
        self.assertIsNone(dug_begun(log, Log(), []))
        self.assertIsNone(dug_in(Log(), 0, "a", []))


def solved(tell, whole):
    """The number from 0 to 996 of which tell tells the whole: sums grow evenly with each number in them."""
    first = tell(0)
    return (whole - first) * pow(tell(1) - first, -1, 997) % 997


def root_by(number, count, thing, paper):
    """The root that comes out of a thing and a paper."""
    if count == 1:
        return sum_of(("leaf", thing))
    first = max(2 ** power for power in range(9) if 2 ** power < count)
    if number < first:
        return sum_of(("node", root_by(number, first, thing, paper[:-1]), paper[-1]))
    return sum_of(("node", paper[-1], root_by(number - first, count - first, thing, paper[:-1])))


def forged(draw, log, number):
    """A wrong thing, and a paper by which the root comes out."""
    thing = ("wrong", draw.randrange(10 ** 6))
    paper = [draw.choice((part, draw.randrange(997))) for part in log.paper(number)]
    at = draw.randrange(len(paper))

    def with_part(part):
        return paper[:at] + [part] + paper[at + 1:]

    return thing, with_part(solved(lambda part: root_by(number, len(log), thing, with_part(part)), log.head()[1]))


def forged_begun(draw, log, other):
    """A paper of the log's own sums, and made-up ones for what it hasn't, by which both roots come out; or None."""
    halves = []

    def own(row, count, in_second=False):
        if len(row) == count:
            return [plain_root(row)] if in_second else []
        first = max(2 ** power for power in range(9) if 2 ** power < count)
        halves.append(len(row) <= first)
        if len(row) <= first:
            return own(row, first, in_second) + [draw.randrange(997)]
        return own(row[first:], count - first, True) + [plain_root(row[:first])]

    def whole(paper):
        roots = [log.head()[1]] if all(halves) else paper[:1]
        for made_up, part in zip(halves[::-1], paper[len(paper) - len(halves):]):
            roots.append(sum_of(("node", roots[-1], part) if made_up else ("node", part, roots[-1])))
        return roots[-1]

    paper = own(log.things(), len(other))
    places = [len(paper) - 1 - nth for nth, made_up in enumerate(halves) if made_up]
    if not places:
        return None
    at = draw.choice(places)
    part = solved(lambda part: whole(paper[:at] + [part] + paper[at + 1:]), other.head()[1])
    return paper[:at] + [part] + paper[at + 1:]
