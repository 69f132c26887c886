"""Point 3 and the interface: the refusals."""

import copy
import pickle
import unittest

from farbuilds import errors
from tests.helpers import things

FIELDS = {
    ValueError: {
        "NoBuild": "name", "NoSteps": "nth", "NoReport": None, "Unmarked": None,
        "Known": "number", "NoText": "row", "NoRow": "row",
    },
    KeyError: {"NoMachine": "name", "NoHolder": "name", "Taken": "name"},
    IndexError: {"NoPlace": "number", "NoLetter": "number"},
    RuntimeError: {"Off": None, "NoRoll": None, "NotYet": None},
    LookupError: {"NoWay": "tag"},
    ArithmeticError: {"NoOrder": "name"},
}
CLASSES = [(base, name, field) for base, named in FIELDS.items() for name, field in named.items()]


class Refusals(unittest.TestCase):
    def test_each_stands_straight_under_its_class(self):
        for base, name, field in CLASSES:
            self.assertEqual(getattr(errors, name).__bases__, (base,), name)

    def test_no_two_are_one(self):
        self.assertEqual(len({getattr(errors, name) for base, name, field in CLASSES}), 17)

    def test_a_field_is_whatever_was_handed_in_by_its_place(self):
        for base, name, field in CLASSES:
            if field is None:
                continue
            for thing in things() + [object(), 10 ** 9000]:
                refused = getattr(errors, name)(thing)
                self.assertIs(getattr(refused, field), thing, name)
                self.assertIsInstance(str(refused), str)

    def test_a_field_is_needed_and_no_more_than_it(self):
        for base, name, field in CLASSES:
            made = getattr(errors, name)
            if field is not None:
                self.assertRaises(TypeError, made)
                self.assertRaises(TypeError, made, 1, 2)

    def test_those_without_fields_are_made_of_none(self):
        for base, name, field in CLASSES:
            if field is None:
                made = getattr(errors, name)
                self.assertIsInstance(made(), base)
                self.assertEqual(vars(made()), {})
                self.assertRaises(TypeError, made, 1)

    def test_each_is_raised_and_caught(self):
        for base, name, field in CLASSES:
            made = getattr(errors, name)
            with self.assertRaises(base) as caught:
                raise made() if field is None else made(("x", 1))
            self.assertIs(type(caught.exception), made)

    def test_a_copy_tells_the_same(self):
        for base, name, field in CLASSES:
            made = getattr(errors, name)
            refused = made() if field is None else made(("x", 1))
            for other in (copy.copy(refused), pickle.loads(pickle.dumps(refused))):
                self.assertIs(type(other), made)
                self.assertEqual(vars(other), vars(refused))
