"""Point 2: whole numbers and words; point 5: items."""

import unittest

from farbuilds.words import are_items, are_rising, is_item, is_number, is_word
from tests.helpers import things, unchanged


class Words(unittest.TestCase):
    def test_whole_numbers_are_no_truths(self):
        for thing in (0, 1, -1, 10 ** 59, -(10 ** 60 - 1)):
            self.assertIs(is_number(thing), True)
        for thing in (True, False, None, "1", "", (1,), [1], {1: 1}):
            self.assertIs(is_number(thing), False)

    def test_words_have_one_to_eight_small_letters(self):
        for thing in ("a", "z", "abcdefgh", "zzzzzzzz", "old", "aa"):
            self.assertIs(is_word(thing), True)
        for thing in ("", "abcdefghi", "A", "aB", "a1", "1", "a b", " ", "a ", " a", "a\n", "\n", "a-b", "`", "{", "=a"):
            self.assertIs(is_word(thing), False)

    def test_items_are_words_with_or_without_a_sign_ahead(self):
        for thing in ("a", "=a", "abcdefgh", "=abcdefgh"):
            self.assertIs(is_item(thing), True)
        for thing in ("", "=", "==", "==a", "a=", "=a=", "=A", "=a\n", "= a", "=abcdefghi", "abcdefghi", "=a1"):
            self.assertIs(is_item(thing), False)

    def test_of_anything_a_truth_is_told(self):
        for thing in things():
            for look in (is_number, is_word, is_item, are_items):
                self.assertIs(type(unchanged(look, thing)), bool)
            if not isinstance(thing, str):
                self.assertIs(is_word(thing), False)
                self.assertIs(is_item(thing), False)

    def test_items_stand_in_a_tuple(self):
        self.assertIs(are_items(()), True)
        self.assertIs(are_items(("a", "=b", "a")), True)
        for thing in (["a"], "a", ("a", "="), ("a", None), ("a", ("b",)), None):
            self.assertIs(are_items(thing), False)

    def test_rising_is_pythons_order_with_no_two_alike(self):
        for names in ([], ["a"], ["a", "b"], ["a", "aa", "ab", "b"]):
            self.assertIs(are_rising(names), True)
        for names in (["a", "a"], ["b", "a"], ["a", "c", "b"], ["aa", "a"], ["a", "b", "b"]):
            self.assertIs(are_rising(names), False)
