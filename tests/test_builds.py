"""Point 5: files, builds, rows; point 6: tags."""

import unittest

from farbuilds.builds import build_of, is_build, row_of, tag_of
from farbuilds.errors import NoBuild
from tests.helpers import refusal, things, unchanged


def files(*counts):
    """Files a, b, .. with so many words each."""
    return tuple(("abcdefgh"[at], ("word",) * many) for at, many in enumerate(counts))


BUILDS = [
    files(0), files(1), files(40), files(0, 0, 0, 0, 0, 0), files(40, 18), files(9, 9, 9, 9, 9, 9),
    files(18, 40), files(10, 10, 10, 10, 15),
    (("a", ("a", "b", "a")),), (("abcdefgh", ("abcdefgh", "z")),), (("a", ()), ("aa", ("x",)), ("b", ())),
    (("file", ("old", "own", "new")), ("rule", ())),
]

NO_BUILDS = [
    (), files(0, 0, 0, 0, 0, 0, 0), files(41), files(40, 19), files(1, 41), files(10, 10, 10, 10, 16),
    files(9, 9, 9, 9, 9, 10), files(40, 40),
    (("a", ()), ("a", ())), (("b", ()), ("a", ())), (("a", ()), ("c", ()), ("b", ())), (("aa", ()), ("a", ())),
    (("a", ()), ("b", ()), ("b", ("x",))),
    [("a", ())], (["a", ()],), (("a", []),), (("a", ["x"]),), (("a", (["x"],)),), ([],), ((),),
    (("a",),), (("a", (), ()),), (("a", ("x",), None),), ("a", ()), (("a", ()), ()), (("a", ()), None), (None,),
    (("a", "x"),), (("a", None),), (("a", {}),), ((None, ()),), ((("a",), ()),), ((1, ()),), ((True, ()),),
    {"a": ()}, "a", ("ab",), (("a", ("x", None)),), (("a", ("x", 1)),), (("a", (True,)),), (("a", (("x",),)),),
]

WRONG_WORDS = ["", "abcdefghi", "A", "aB", "a1", "1", "a b", " ", "a ", "a\n", "\n", "=a", "a=", "~"]


class Builds(unittest.TestCase):
    def test_builds_are_builds(self):
        for build in BUILDS:
            self.assertIs(unchanged(is_build, build), True, build)

    def test_others_are_none(self):
        for thing in NO_BUILDS + things():
            self.assertIs(unchanged(is_build, thing), False, thing)

    def test_words_of_one_to_eight_small_letters(self):
        for word in ("a", "z", "abcdefgh"):
            self.assertIs(is_build(((word, ()),)), True)
            self.assertIs(is_build((("a", (word,)),)), True)
        for word in WRONG_WORDS:
            self.assertIs(is_build(((word, ()),)), False, word)
            self.assertIs(is_build((("a", (word,)),)), False, word)
            self.assertIs(is_build((("a", ("x", "y", word)), ("b", ()))), False, word)

    def test_row_of_each_kind(self):
        self.assertEqual(row_of((("a", ()),)), ("=a",))
        self.assertEqual(row_of((("a", ("x", "y", "x")),)), ("=a", "x", "y", "x"))
        self.assertEqual(row_of((("a", ()), ("aa", ("x",)), ("b", ()))), ("=a", "=aa", "x", "=b"))
        self.assertEqual(row_of(files(40, 18)), ("=a",) + ("word",) * 40 + ("=b",) + ("word",) * 18)
        self.assertEqual(row_of(files(0, 0, 0, 0, 0, 0)), ("=a", "=b", "=c", "=d", "=e", "=f"))

    def test_rows_there_and_back(self):
        for build in BUILDS:
            row = unchanged(row_of, build)
            self.assertIs(type(row), tuple)
            self.assertLessEqual(len(row), 60)
            self.assertEqual(unchanged(build_of, row), build)
            self.assertIs(is_build(build_of(row)), True)

    def test_build_of_no_row(self):
        word = ("word",)
        rows = [
            (), ("a",), ("a", "=a"), ("=",), ("=a", "="), ("==",), ("=a", "=="), ("==a",), ("=a", ""), ("",),
            ("=a", "=a"), ("=b", "=a"), ("=a", "=c", "=b"), ("=a", "x", "=a", "x"),
            ["=a"], ["=a", "x"], "=a", ("=a", ["x"]), ("=a", ("x",)), ("=a", None), ("=a", 1), ("=a", True), (None,),
            ("=abcdefghi",), ("=a", "abcdefghi"), ("=a", "X"), ("=A",), ("=a\n",), ("=a", "x\n"), ("=a", "x1"),
            ("=a", "x y"), ("= a",),
            ("=a", "=b", "=c", "=d", "=e", "=f", "=g"), ("=a",) + word * 41, ("=a",) + word * 40 + ("=b",) + word * 19,
            ("=a",) + word * 30 + ("=b",) + word * 30, ("=a",) + word * 600, (("a", ()),), {"=a": "x"},
        ]
        for thing in rows + things() + NO_BUILDS:
            refused = refusal(NoBuild, unchanged, build_of, thing)
            self.assertIsNotNone(refused, thing)
            self.assertIs(refused.name, thing)

    def test_build_of_rows_at_the_edge(self):
        word = ("word",)
        self.assertEqual(build_of(("=a",) + word * 40), files(40))
        self.assertEqual(build_of(("=a",) + word * 40 + ("=b",) + word * 18), files(40, 18))
        self.assertEqual(build_of(("=a", "=b", "=c", "=d", "=e", "=f")), files(0, 0, 0, 0, 0, 0))


class Tags(unittest.TestCase):
    def test_hand_reckoned(self):
        # "=a" has the sum 739; 101 * 11 + 739 + 1 = 1851 = 997 + 854.
        self.assertEqual(tag_of("app", ("=a",)), ("app", 1, 854))
        # "b" has the sum 31 * 7 + 98 = 315; 101 * 854 + 315 + 1 = 86570 = 86 * 997 + 828.
        self.assertEqual(tag_of("app", ("=a", "b")), ("app", 2, 828))
        # 101 * 828 + 315 + 1 = 83944 = 84 * 997 + 196.
        self.assertEqual(tag_of("other", ("=a", "b", "b")), ("other", 3, 196))

    def test_a_tuple_of_name_size_and_sum(self):
        for build in BUILDS:
            row = row_of(build)
            tag = unchanged(tag_of, "x", row)
            self.assertIs(type(tag), tuple)
            self.assertEqual(tag[:2], ("x", len(row)))
            self.assertTrue(0 <= tag[2] <= 996)
            self.assertEqual(tag_of("x", row), tag)
