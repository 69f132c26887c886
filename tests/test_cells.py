"""Points 15 and 16, of cells: which mark stands, and writes that are done, cut ahead of, or torn."""

import itertools
import unittest

from farbuilds.cells import (
    boot_write, charter_write, do_write, first_cells, list_write, standing, standing_place, tear_write,
)
from tests.helpers import unchanged

CHARTER = (1, (("ann", 5),), (1, 1, 1))
NEXT = (2, (("ann", 6),), (1, 1, 1))
LIST = (1, 100, ())
BOOT = (0, 3, 40, 2, ())
FIRST_BOOT = (0, 0, None, 0, ())
TAG, OTHER = ("app", 2, 30), ("web", 3, 40)
ROW = ("=a", "x")
FIRST = first_cells(CHARTER, TAG, ROW)


class First(unittest.TestCase):
    def test_as_it_is_made(self):
        self.assertEqual(FIRST, (0, ((1, CHARTER, None, FIRST_BOOT), None), ((TAG, ROW), (None, ()))))


class Standing(unittest.TestCase):
    def test_the_greater_turn_stands(self):
        for one, other in itertools.product((None, 1, 2, 3, 10, 10 ** 20), repeat=2):
            if one != other:
                marks = tuple(turn and (turn, CHARTER, None, FIRST_BOOT) for turn in (one, other))
                place = 0 if (one or 0) > (other or 0) else 1
                cells = (7, marks, FIRST[2])
                self.assertEqual(unchanged(standing_place, cells), place)
                self.assertEqual(unchanged(standing, cells), marks[place])


class Writes(unittest.TestCase):
    def test_marks_change_one_thing_alone(self):
        self.assertEqual(unchanged(charter_write, FIRST, NEXT), ("mark", NEXT, None, FIRST_BOOT))
        self.assertEqual(unchanged(list_write, FIRST, LIST), ("mark", CHARTER, LIST, FIRST_BOOT))
        self.assertEqual(unchanged(boot_write, FIRST, BOOT), ("mark", CHARTER, None, BOOT))
        cells = (9, ((4, NEXT, LIST, BOOT), (3, CHARTER, None, FIRST_BOOT)), FIRST[2])
        self.assertEqual(charter_write(cells, CHARTER), ("mark", CHARTER, LIST, BOOT))
        self.assertEqual(list_write(cells, None), ("mark", NEXT, None, BOOT))
        self.assertEqual(boot_write(cells, FIRST_BOOT), ("mark", NEXT, LIST, FIRST_BOOT))

    def test_a_mark_is_written_over_the_one_that_does_not_stand(self):
        one = unchanged(do_write, FIRST, ("mark", NEXT, None, FIRST_BOOT))
        self.assertEqual(one, (1, (FIRST[1][0], (2, NEXT, None, FIRST_BOOT)), FIRST[2]))
        two = do_write(one, list_write(one, LIST))
        self.assertEqual(two, (2, ((3, NEXT, LIST, FIRST_BOOT), one[1][1]), FIRST[2]))
        three = do_write(two, boot_write(two, BOOT))
        self.assertEqual(three, (3, (two[1][0], (4, NEXT, LIST, BOOT)), FIRST[2]))

    def test_a_torn_mark_is_none_and_the_other_one_stands(self):
        one = unchanged(tear_write, FIRST, ("mark", NEXT, None, FIRST_BOOT))
        self.assertEqual(one, (1, (FIRST[1][0], None), FIRST[2]))
        two = do_write(one, ("mark", NEXT, None, FIRST_BOOT))
        self.assertEqual(two, (2, (FIRST[1][0], (2, NEXT, None, FIRST_BOOT)), FIRST[2]))
        torn = tear_write(two, ("mark", NEXT, LIST, BOOT))
        self.assertEqual(torn, (3, (None, two[1][1]), FIRST[2]))
        self.assertEqual(standing(torn), two[1][1])
        again = do_write(torn, ("mark", NEXT, LIST, BOOT))
        self.assertEqual(again, (4, ((3, NEXT, LIST, BOOT), two[1][1]), FIRST[2]))

    def test_a_tag_leaves_a_room_without_items(self):
        for room in (0, 1):
            rooms = ((TAG, ROW), (OTHER, ("=b",)))
            cells = (5, FIRST[1], rooms)
            kept = rooms[1 - room]
            done = unchanged(do_write, cells, ("tag", room, ("new", 1, 0)))
            self.assertEqual(done[:2], (6, FIRST[1]))
            self.assertEqual((done[2][room], done[2][1 - room]), ((("new", 1, 0), ()), kept))
            torn = unchanged(tear_write, cells, ("tag", room, ("new", 1, 0)))
            self.assertEqual(torn[:2], (6, FIRST[1]))
            self.assertEqual((torn[2][room], torn[2][1 - room]), ((None, ()), kept))

    def test_an_item_comes_behind_the_others_or_not_at_all(self):
        for room in (0, 1):
            rooms = ((TAG, ROW), (OTHER, ()))
            cells = (5, FIRST[1], rooms)
            done = unchanged(do_write, cells, ("item", room, "new"))
            self.assertEqual(done[:2], (6, FIRST[1]))
            self.assertEqual(done[2][room], (rooms[room][0], rooms[room][1] + ("new",)))
            self.assertEqual(done[2][1 - room], rooms[1 - room])
            self.assertEqual(unchanged(tear_write, cells, ("item", room, "new")), (6, FIRST[1], rooms))

    def test_each_write_begun_is_counted(self):
        cells = FIRST
        for number, (change, write) in enumerate(itertools.product((do_write, tear_write), (
            ("mark", NEXT, LIST, BOOT), ("tag", 1, OTHER), ("item", 1, "x"), ("item", 1, "y"),
        ))):
            self.assertEqual(cells[0], number)
            cells = change(cells, write)
        self.assertEqual(cells[0], 8)
