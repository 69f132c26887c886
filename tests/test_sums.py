"""Point 6: sums of things."""

import random
import unittest

from farbuilds.sums import sum_of
from tests.helpers import nested, unchanged


def plainly(thing):
    """The sum as the document words it, call by call."""
    if thing is None:
        return 5
    if isinstance(thing, int):
        return (17 * thing + 3) % 997
    total = 7 if isinstance(thing, str) else 11
    for part in thing:
        if isinstance(thing, str):
            total = (31 * total + ord(part)) % 997
        else:
            total = (101 * total + plainly(part) + 1) % 997
    return total


def some_thing(chance, depth):
    """A thing that has a sum, by chance."""
    kind = chance.randrange(4 if depth else 3)
    if kind == 0:
        return None
    if kind == 1:
        return chance.choice((0, 1, -1, chance.randrange(-10 ** 60 + 1, 10 ** 60), chance.randrange(2000)))
    if kind == 2:
        return "".join(chance.choice("ab =~\n") for times in range(chance.randrange(6)))
    return tuple(some_thing(chance, depth - 1) for times in range(chance.randrange(5)))


class Sums(unittest.TestCase):
    def test_of_none(self):
        self.assertEqual(sum_of(None), 5)

    def test_of_whole_numbers(self):
        for number, told in ((0, 3), (1, 20), (2, 37), (-1, 983), (997, 3), (-997, 3), (58, 989), (59, 9), (-59, 994)):
            self.assertEqual(sum_of(number), told, number)

    def test_of_numbers_of_sixty_figures(self):
        self.assertEqual(sum_of(10 ** 59), (17 * pow(10, 59, 997) + 3) % 997)
        self.assertEqual(sum_of(10 ** 60 - 1), (17 * (pow(10, 60, 997) - 1) + 3) % 997)
        self.assertEqual(sum_of(1 - 10 ** 60), (17 * (1 - pow(10, 60, 997)) + 3) % 997)

    def test_of_texts(self):
        # 31 * 7 + 97 = 314; 31 * 314 + 98 = 9832 = 9 * 997 + 859.
        for text, told in (("", 7), ("a", 314), ("ab", 859), ("\n", 227), (" ", 249), ("~", 343), ("=a", 739)):
            self.assertEqual(sum_of(text), told, text)

    def test_of_texts_with_each_sign(self):
        for sign in [chr(number) for number in range(32, 127) if number != 37] + ["\n"]:
            self.assertEqual(sum_of(sign), (31 * 7 + ord(sign)) % 997)
            self.assertEqual(sum_of("zz" + sign), (31 * sum_of("zz") + ord(sign)) % 997)
            self.assertEqual(sum_of(sign * 300), plainly(sign * 300))

    def test_of_tuples(self):
        # 101 * 11 + 5 + 1 = 1117 = 997 + 120; 101 * 120 + 3 + 1 = 12124 = 12 * 997 + 160.
        self.assertEqual(sum_of(()), 11)
        self.assertEqual(sum_of((None,)), 120)
        self.assertEqual(sum_of((None, 0)), 160)
        # 101 * 11 + 11 + 1 = 1123 = 997 + 126; 101 * 11 + 126 + 1 = 1238 = 997 + 241.
        self.assertEqual(sum_of(((),)), 126)
        self.assertEqual(sum_of((((),),)), 241)
        # 101 * 11 + 120 + 1 = 1232, 235; 101 * 235 + 7 + 1 = 23743 = 23 * 997 + 812.
        self.assertEqual(sum_of(((None,), "")), 812)
        self.assertNotEqual(sum_of(((None,), "")), sum_of(("", (None,))))

    def test_of_things_by_chance(self):
        chance = random.Random(6)
        for times in range(3000):
            thing = some_thing(chance, 4)
            told = unchanged(sum_of, thing)
            self.assertIs(type(told), int)
            self.assertTrue(0 <= told <= 996)
            self.assertEqual(told, plainly(thing), thing)

    def test_of_tuples_however_deep(self):
        self.assertEqual(sum_of(nested(lambda thing: (thing, 1), 12)), plainly(nested(lambda thing: (thing, 1), 12)))
        deep, told = (), 11
        for times in range(5000):
            deep, told = (deep,), (101 * 11 + told + 1) % 997
        self.assertEqual(sum_of(deep), told)

    def test_the_same_again(self):
        thing = ("a", (1, None, ("b",)))
        self.assertEqual(sum_of(thing), sum_of(thing))
