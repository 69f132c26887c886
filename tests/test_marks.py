"""Point 9: marks, and whose count."""

import unittest

from farbuilds.marks import counted, mark_of
from farbuilds.sums import sum_of
from tests.helpers import things, unchanged

HOLDERS = (("ann", 5), ("bob", 996), ("cy", 5), ("dee", 1))
CHARTER = (1, HOLDERS, (1, 2, 3))
THING = ("list", (1, None, ("a", 0)))


def right(thing=THING):
    """The marks of all holders."""
    return tuple((name, mark_of(key, thing)) for name, key in HOLDERS)


class Marks(unittest.TestCase):
    def test_hand_reckoned(self):
        # None has the sum 5, "" 7, () 11, 0 3, "a" 314.
        for key, thing, mark in (
            (5, None, 50), (1, None, 6), (996, None, 993), (1, "", 8), (10, (), 210), (996, 0, 995), (100, 0, 330),
            (2, "a", 632), (500, "a", 224),
        ):
            self.assertEqual(unchanged(mark_of, key, thing), mark, (key, thing))

    def test_from_0_to_996(self):
        for key in range(1, 997):
            mark = mark_of(key, THING)
            self.assertTrue(0 <= mark <= 996)
            self.assertEqual(mark, (key * sum_of(THING) + key * key) % 997)


class Counted(unittest.TestCase):
    def told(self, marks, thing=THING):
        names = unchanged(counted, CHARTER, thing, marks)
        self.assertIs(type(names), list)
        return names

    def test_all_some_and_none(self):
        ann, bob, cy, dee = right()
        self.assertEqual(self.told((ann, bob, cy, dee)), ["ann", "bob", "cy", "dee"])
        self.assertEqual(self.told((cy, ann)), ["ann", "cy"])
        self.assertEqual(self.told((dee,)), ["dee"])
        self.assertEqual(self.told(()), [])

    def test_rising_and_each_once(self):
        ann, bob, cy, dee = right()
        self.assertEqual(self.told((dee, cy, bob, ann)), ["ann", "bob", "cy", "dee"])
        self.assertEqual(self.told((bob, bob, ann, bob, ann)), ["ann", "bob"])

    def test_a_wrong_mark_beside_the_right_one_takes_nothing_away(self):
        ann, bob, cy, dee = right()
        wrong = ("bob", bob[1] + 1)
        self.assertEqual(self.told((wrong, bob)), ["bob"])
        self.assertEqual(self.told((bob, wrong)), ["bob"])
        self.assertEqual(self.told((wrong, wrong)), [])

    def test_two_holders_of_one_key(self):
        ann, bob, cy, dee = right()
        self.assertEqual(ann[1], cy[1])
        self.assertEqual(self.told((ann,)), ["ann"])
        self.assertEqual(self.told((cy,)), ["cy"])

    def test_wrong_marks(self):
        for name, mark in right():
            for other in (mark + 1, mark - 1, mark + 997, mark - 997, -mark - 1, 10 ** 59, str(mark), None, (mark,), [mark]):
                self.assertEqual(self.told(((name, other),)), [], (name, other))

    def test_marks_of_another_thing(self):
        other = (1, 2)
        self.assertNotEqual(sum_of(other), sum_of(THING))
        for name, key in HOLDERS:
            marked = ((name, mark_of(key, other)),)
            self.assertEqual(self.told(marked), [])
            self.assertEqual(self.told(marked, other), [name])

    def test_under_another_holders_name(self):
        ann, bob, cy, dee = right()
        self.assertEqual(len({ann[1], bob[1], dee[1]}), 3)
        self.assertEqual(self.told((("ann", bob[1]), ("bob", dee[1]), ("dee", ann[1]))), [])

    def test_names_of_no_holder(self):
        mark = right()[0][1]
        for name in ("eve", "", "ANN", "ann ", "ann\n", None, True, 0, ("ann",), ["ann"], {}, {"ann": 1}):
            self.assertEqual(self.told(((name, mark), right()[3])), ["dee"])

    def test_a_truth_is_no_mark(self):
        # Key 1 has the mark 1 under what has the sum 0, key 996 the mark 0 under what has the sum 1.
        nought = next((number,) for number in range(997) if sum_of((number,)) == 0)
        one = next((number,) for number in range(997) if sum_of((number,)) == 1)
        self.assertEqual(self.told((("dee", 1),), nought), ["dee"])
        self.assertEqual(self.told((("dee", True),), nought), [])
        self.assertEqual(self.told((("bob", 0),), one), ["bob"])
        self.assertEqual(self.told((("bob", False),), one), [])

    def test_parts_that_are_no_tuple_of_two(self):
        ann, bob, cy, dee = right()
        for part in (list(ann), ann + (1,), ann[:1], (), (ann,), "ann", ann[1], None, dict([ann]), [ann]):
            self.assertEqual(self.told((part,)), [], part)
            self.assertEqual(self.told((part, dee, part)), ["dee"], part)

    def test_marks_that_are_no_tuple(self):
        for thing in things() + [list(right()), dict(right()), right()[0]]:
            self.assertEqual(self.told(thing), [], thing)

    def test_anything_as_a_part_counts_for_nothing(self):
        self.assertEqual(self.told(tuple(things()) + right()[1:2]), ["bob"])
        self.assertEqual(self.told(tuple((thing, thing) for thing in things()) + right()[1:2]), ["bob"])
        self.assertEqual(self.told(tuple(("ann", thing) for thing in things()) + right()[1:2]), ["bob"])

    def test_one_holder(self):
        charter = (999, (("zed", 996),), (1, 1, 1))
        self.assertEqual(counted(charter, None, (("zed", 993),)), ["zed"])
        self.assertEqual(counted(charter, None, (("zed", 992),)), [])

    def test_lists_are_the_askers_own(self):
        names = self.told(right())
        names.clear()
        self.assertEqual(self.told(right()), ["ann", "bob", "cy", "dee"])
