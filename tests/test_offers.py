"""Points 25 to 27: the letters for a machine, permits, and letters that are withheld."""

import itertools
import unittest

from farbuilds.least import least
from farbuilds.letters import kind_of
from farbuilds.steps import cost_of, written
from farbuilds.sums import sum_of
from tests.houses import bring, graded, join, new_charter, publish, rolled, round_of, shelved, take_all
from tests.makers import (
    BUILDS, CHARTER, EMPTY, FACTS, HOLDERS, KEY, ROWS, TAGS, charter_letter, held, made, marks_by, standing_so,
)

LAST = 10 ** 9


def kinds(letters):
    return [letter[0] for letter in letters]


def standing_in(house, boot, rooms, listing=None, charter=CHARTER, **named):
    """A machine that stands so, added to a house."""
    machine = standing_so(boot, rooms, listing, charter)
    house.add_machine("far", KEY, FACTS, 0, machine.report(0), **named)
    return machine


class Charters(unittest.TestCase):
    def test_rising_with_their_marks(self):
        house = shelved()
        join(house)
        self.assertEqual(house.letters("far", 0), [])
        letters = []
        for number, by in ((4, HOLDERS), (5, HOLDERS[:2]), (6, HOLDERS[1:])):
            letters.append(charter_letter(number, by=by))
            house.new_charter(*letters[-1][1:])
            self.assertEqual(house.letters("far", 0), letters)
        for nth in range(4):
            other = shelved()
            for letter in letters:
                other.new_charter(*letter[1:])
            standing_in(other, (0, 0, None, 0, ()), (held("app"), EMPTY), charter=(3 + nth,) + CHARTER[1:])
            self.assertEqual(other.letters("far", 0), letters[nth:])

    def test_marks_as_they_came(self):
        house = shelved()
        join(house)
        charter = (4, HOLDERS, (2, 2, 2))
        marks = (None, "a", ("ann", 3)) + marks_by(HOLDERS, "charter", charter) + ((),)
        house.new_charter(charter, marks)
        self.assertEqual(house.letters("far", 0), [("charter", charter, marks)])

    def test_by_the_last_report(self):
        house = shelved()
        machine = join(house)
        new_charter(house, 4)
        new_charter(house, 5)
        letters = house.letters("far", 0)
        self.assertEqual(machine.take(letters[0], 0), "taken")
        self.assertEqual(house.letters("far", 1), letters)
        house.hear(machine.report(1), 1)
        self.assertEqual(house.letters("far", 1), letters[1:])
        machine.take(letters[1], 1)
        house.hear(machine.report(2), 2)
        self.assertEqual(house.letters("far", 2), [])


class Lists(unittest.TestCase):
    def test_the_last_one_alone(self):
        house = shelved()
        join(house)
        for number in (1, 2, 9):
            told = publish(house, number)
            self.assertEqual(house.letters("far", 0), [("list", told, marks_by(HOLDERS, "list", told))])

    def test_where_the_machine_has_it(self):
        for number, due in ((None, True), (4, True), (5, False)):
            house = shelved()
            publish(house, 4)
            publish(house, 5)
            listing = None if number is None else graded(number)
            standing_in(house, (0, 0, None, 0, ()), (held("app"), EMPTY), listing)
            self.assertEqual(kinds(house.letters("far", 0)), ["list"] * due)

    def test_a_list_that_is_past(self):
        house = shelved()
        publish(house, 1, until=1000)
        publish(house, 2, until=20)
        join(house)
        # One that is past isn't told, nor an elder one in its place.
        for moment in (0, 20, 21, LAST):
            self.assertEqual([letter[1][0] for letter in house.letters("far", moment)], [2] if moment <= 20 else [])

    def test_marks_as_they_came(self):
        house = shelved()
        join(house)
        told = graded(3)
        marks = marks_by(HOLDERS[1:], "list", told) + (7, None)
        house.publish(told, marks)
        self.assertEqual(house.letters("far", 0), [("list", told, marks)])

    def test_behind_the_charters(self):
        house = rolled()
        new_charter(house, 4)
        new_charter(house, 5)
        join(house)
        self.assertEqual(kinds(house.letters("far", 0)), ["charter", "charter", "list", "items"])


class Items(unittest.TestCase):
    def right_items(self, letter, name, base, at):
        """A letter of items with the least steps from a place on."""
        self.assertEqual(letter[:4], ("items", TAGS[name], TAGS[base], at))
        self.assertEqual(len(letter), 5)
        self.assertEqual(kind_of(letter), "items")
        self.assertEqual(written(ROWS[base], ROWS[name][:at], letter[4]), ROWS[name])
        self.assertEqual(cost_of(letter[4]), least(ROWS[base], ROWS[name], start=at)[0])

    def told(self, rooms, room=0, name="web", **named):
        house = rolled(name, **named)
        standing_in(house, (room, 3, None, 0, ()), rooms, graded(1))
        letters = house.letters("far", 5)
        self.assertEqual(len(letters), 1)
        return letters[0]

    def test_at_nought(self):
        for base, name in itertools.permutations(BUILDS, 2):
            self.right_items(self.told((held(base), EMPTY), name=name), name, base, 0)
            self.right_items(self.told((EMPTY, held(base)), 1, name), name, base, 0)

    def test_at_a_count(self):
        for base, name in itertools.permutations(BUILDS, 2):
            for many in range(len(ROWS[name])):
                self.right_items(self.told((held(base), held(name, many)), name=name), name, base, many)
                self.right_items(self.told((held(name, many), held(base)), 1, name), name, base, many)

    def test_a_room_of_another_build(self):
        for many in range(2):
            self.right_items(self.told((held("app"), held("new", many))), "web", "app", 0)
        name, size, total = TAGS["web"]
        for tag in ((name, size, total - 1), (name, size + 1, total), ("wob", size, total)):
            for many in (3, 6):
                self.right_items(self.told((held("app"), (tag, ROWS["web"][:many]))), "web", "app", 0)

    def test_a_wrong_last_item(self):
        row = ROWS["web"]
        for many in range(1, 7):
            # Of another sum all is sent anew; of the same sum it can't be told apart.
            wrong = row[:many - 1] + ("q",)
            self.assertNotEqual(sum_of(wrong), sum_of(row[:many]))
            self.right_items(self.told((held("app"), (TAGS["web"], wrong))), "web", "app", 0)
            alike = alike_of(row[:many])
            letter = self.told((held("app"), (TAGS["web"], alike)))
            if many < 6:
                self.right_items(letter, "web", "app", many)
            else:
                self.assertEqual(letter[0], "permit")

    def test_more_items_than_its_size(self):
        row = ROWS["web"]
        self.right_items(self.told((held("app"), (TAGS["web"], row + ("z",)))), "web", "app", 0)
        # Also of the whole row's sum.
        last = next(
            "".join(parts) for parts in itertools.product("abcdefghijklmnopqrstuvwxyz", repeat=3)
            if sum_of(row + ("".join(parts),)) == sum_of(row)
        )
        self.right_items(self.told((held("app"), (TAGS["web"], row + (last,)))), "web", "app", 0)

    def test_a_room_that_is_whole(self):
        for base, name in itertools.permutations(BUILDS, 2):
            self.assertEqual(self.told((held(base), held(name)), name=name)[0], "permit")
            self.assertEqual(self.told((held(name), held(base)), 1, name)[0], "permit")

    def test_told_again_until_a_report_is_heard(self):
        house = rolled()
        machine = join(house)
        first = house.letters("far", 0)
        for moment in (0, 3, 400):
            self.assertEqual(house.letters("far", moment), first)
        machine.take(first[1], 400, writes=4)
        machine.start(400)
        self.assertEqual(house.letters("far", 400), first)
        house.hear(machine.report(401), 401)
        letters = house.letters("far", 401)
        self.assertEqual(letters[0], first[0])
        self.right_items(letters[1], "web", "app", 3)

    def test_where_it_is_not_wanted_there_are_none(self):
        house = rolled()
        join(house, title="web")
        self.assertEqual(kinds(house.letters("far", 0)), ["list"])
        house.stop(1)
        self.assertEqual(kinds(house.letters("far", 1)), ["list"])

    def test_items_from_cut_to_cut(self):
        house = rolled("web")
        machine = join(house)
        sent = 0
        for moment in range(20):
            for letter in house.letters("far", moment):
                if machine.is_on():
                    if letter[0] == "items":
                        sent += cost_of(letter[4])
                    machine.take(letter, moment, writes=2)
            machine.start(moment)
            house.hear(machine.report(moment), moment)
            if machine.boot()[2] is not None:
                break
        self.assertEqual(machine.cells()[2][1], held("web"))


def alike_of(row):
    """Another row of the same sum: its last two items, or the only one, made up."""
    letters = "abcdefghijklmnopqrstuvwxyz"
    for parts in itertools.product(letters, repeat=4):
        other = row[:-1] + ("".join(parts),)
        if sum_of(other) == sum_of(row) and other != row:
            return other
    raise AssertionError("no other row")


class Permits(unittest.TestCase):
    def ready(self, house, name="far", title="app", other="web", **named):
        """A machine whose other room is whole, added to a house."""
        machine = standing_so((0, 0, None, 0, ()), (held(title), held(other)), graded(1))
        machine.name = name
        house.add_machine(name, KEY, FACTS, 0, machine.report(0), **named)
        return machine

    def permit(self, house, moment, name="far"):
        letters = house.letters(name, moment)
        self.assertEqual(kinds(letters), ["permit"])
        self.assertEqual(kind_of(letters[0]), "permit")
        return letters[0]

    def test_a_permit_and_its_marks(self):
        for holders in (HOLDERS, HOLDERS[::-1], HOLDERS[:1], HOLDERS[1:]):
            house = rolled(holders=holders, span=7)
            self.ready(house)
            permit = (1, "far", "web", 12)
            self.assertEqual(self.permit(house, 5), ("permit", permit, marks_by(sorted(holders), "permit", permit)))

    def test_holders_whose_keys_changed(self):
        others = (("ann", 5), ("bob", 8), ("dan", 7))
        for holders, by in ((HOLDERS, others[:1]), (HOLDERS[1:], ()), (HOLDERS[:2], others[:1])):
            house = rolled(holders=holders)
            machine = standing_so((0, 0, None, 0, ()), (held("app"), held("web")), graded(1), (4, others, (1, 1, 1)))
            new_charter(house, 4, others, (1, 1, 1))
            house.add_machine("far", KEY, FACTS, 0, machine.report(0))
            letter = self.permit(house, 5)
            self.assertEqual(letter[2], marks_by(by, "permit", letter[1]))
            self.assertEqual(machine.take(letter, 5), "taken" if by else "unmarked")

    def test_ends(self):
        for span, moment, end in ((30, 0, 30), (1, 7, 8), (1000, 7, 1007), (30, LAST - 30, LAST), (30, LAST - 29, LAST), (1, LAST, LAST)):
            house = shelved(span=span)
            publish(house, until=LAST)
            house.roll("web", 0)
            self.ready(house)
            self.assertEqual(self.permit(house, moment)[1], (1, "far", "web", end))
            self.assertEqual(house.last_end("web"), end)

    def test_numbers_over_all_machines(self):
        house = rolled(span=4)
        for name in ("ma", "mb", "mc"):
            self.ready(house, name)
        told = [(name, moment) for moment in (0, 5, 10) for name in ("mc", "ma", "mb")]
        numbers = [self.permit(house, moment, name)[1][0] for name, moment in told]
        self.assertEqual(numbers, list(range(1, 10)))

    def test_told_again(self):
        house = rolled(span=10)
        machine = self.ready(house)
        self.ready(house, "near")
        first = self.permit(house, 3)
        self.assertEqual(first[1], (1, "far", "web", 13))
        self.permit(house, 3, "near")
        for moment in (3, 4, 13):
            self.assertEqual(self.permit(house, moment), first)
        house.hear(machine.report(5), 5)
        self.assertEqual(self.permit(house, 13), first)
        # Nor does the roll-out begun anew, or another list, change anything.
        house.roll("web", 13)
        publish(house, 2)
        self.assertEqual(house.letters("far", 13)[-1], first)

    def test_its_end_is_over(self):
        house = rolled(span=10)
        self.ready(house)
        first = self.permit(house, 3)
        self.assertEqual(self.permit(house, 13), first)
        self.assertEqual(self.permit(house, 14)[1], (2, "far", "web", 24))
        # From then on the second one is the last.
        self.assertEqual(self.permit(house, 24)[1], (2, "far", "web", 24))

    def test_its_number_is_reached(self):
        house = rolled(span=100)
        machine = self.ready(house)
        first = self.permit(house, 3)
        machine.take(first, 3)
        # Off in the trial, and passed by: its number stands in boot.
        for time in range(2):
            machine.start(3)
        machine.start(104)
        self.assertEqual(machine.boot(), (0, 1, None, 0, (TAGS["web"],)))
        house.hear(machine.report(104), 104)
        self.assertEqual(house.letters("far", 104), [])
        other = rolled(span=100)
        machine = self.ready(other)
        machine.take(self.permit(other, 3), 3)
        self.assertEqual(machine.start(104), TAGS["app"])
        self.assertEqual(machine.boot(), (0, 1, None, 0, ()))
        # Heard as of a moment at which the permit would still hold.
        other.hear(machine.report(50), 50)
        self.assertEqual(self.permit(other, 60)[1], (2, "far", "web", 160))

    def test_another_build(self):
        house = rolled(span=100)
        self.ready(house)
        first = self.permit(house, 3)
        machine = standing_so((0, 0, None, 0, ()), (held("app"), held("new")), graded(1))
        house.roll("new", 4)
        house.hear(machine.report(4), 4)
        self.assertEqual(self.permit(house, 4)[1], (2, "far", "new", 104))
        # Back again to the first build the last permit is of the other one.
        house.roll("web", 5)
        house.hear(standing_so((0, 0, None, 0, ()), (held("app"), held("web")), graded(1)).report(5), 5)
        again = self.permit(house, 5)
        self.assertEqual(again[1], (3, "far", "web", 105))
        self.assertNotEqual(again, first)

    def test_a_charter_since(self):
        house = rolled(span=100)
        machine = self.ready(house)
        first = self.permit(house, 3)
        new_charter(house, 4)
        letters = house.letters("far", 3)
        self.assertEqual(kinds(letters), ["charter", "permit"])
        self.assertEqual(letters[1][1], (2, "far", "web", 103))
        self.assertEqual(house.letters("far", 4), letters)
        self.assertEqual([machine.take(letter, 4) for letter in (first, letters[1])], ["taken", "trial"])

    def test_a_withheld_permit_has_no_number(self):
        house = rolled("web")
        join(house, "front")
        self.ready(house, behind="front")
        for time in range(3):
            self.assertEqual(house.letters("far", 5), [])
        self.assertIsNone(house.last_end("web"))
        self.ready(house, "free")
        self.assertEqual(self.permit(house, 5, "free")[1], (1, "free", "web", 35))

    def test_last_end(self):
        house = rolled(span=10)
        for name in ("ma", "mb"):
            self.ready(house, name)
        self.assertEqual([house.last_end(name) for name in BUILDS], [None] * 4)
        self.permit(house, 5, "ma")
        self.assertEqual(house.last_end("web"), 15)
        self.permit(house, 9, "mb")
        self.assertEqual(house.last_end("web"), 19)
        self.permit(house, 12, "ma")
        self.assertEqual(house.last_end("web"), 19)
        self.permit(house, 16, "ma")
        self.assertEqual(house.last_end("web"), 26)
        house.stop(17)
        self.assertEqual([house.last_end(name) for name in BUILDS], [None, 26, None, None])
        self.assertIsNone(house.last_end("none"))

    def test_the_first_end_at_nought(self):
        house = rolled(span=1)
        self.ready(house)
        self.permit(house, 0)
        self.assertEqual(house.last_end("web"), 1)


class Withheld(unittest.TestCase):
    def test_by_the_one_ahead(self):
        # far stands behind front; web is of a higher grade than app, old of a lower one.
        for name, front, told in (
            ("web", "app", ["list", "items"]), ("web", "web", ["list", "items"]), ("new", "web", ["list", "items"]),
            ("old", "app", ["list", "items"]),
        ):
            house = rolled(name)
            join(house, "front", front)
            machine = join(house, behind="front")
            self.assertEqual(kinds(house.letters("far", 0)), told)
            take_all(machine, house.letters("far", 0), 0)
            house.hear(machine.report(1), 1)
            higher = {"web": 2, "new": 3, "old": 0}[name] > {"app": 1, "web": 2}[front]
            self.assertEqual(kinds(house.letters("far", 1)), [] if higher else ["permit"])

    def test_by_one_behind(self):
        for name, back, fits in (("old", "app", False), ("old", "old", True), ("new", "app", True), ("app", "app", True), ("app", "web", False)):
            house = rolled(name)
            machine = join(house, title="web")
            join(house, "other", "old", behind="far")
            join(house, "back", back, behind="far")
            bring_items(house, machine)
            self.assertEqual(kinds(house.letters("far", 1)), ["permit"] * fits, (name, back))

    def test_by_what_the_one_ahead_can_come_to(self):
        # The one ahead runs new; while it can go to web, none behind it goes to new.
        house = rolled("web", span=10)
        front = join(house, "front", "new")
        machine = join(house, behind="front")
        bring_items(house, front)
        house.letters("front", 1)
        house.roll("new", 2)
        bring_items(house, machine, 2)
        self.assertEqual(house.letters("far", 3), [])
        self.assertEqual(house.letters("far", 50), [])
        # A report from ahead of the end leaves it so, one from behind the end doesn't.
        house.hear(front.report(11), 11)
        self.assertEqual(house.letters("far", 11), [])
        house.hear(front.report(12), 12)
        self.assertEqual(kinds(house.letters("far", 12)), ["permit"])

    def test_by_what_one_behind_can_come_to(self):
        house = rolled("new", span=10)
        machine = join(house, title="new")
        back = join(house, "back", behind="far")
        bring_items(house, back)
        self.assertEqual(kinds(house.letters("back", 1)), ["permit"])
        house.roll("app", 2)
        bring_items(house, machine, 2)
        self.assertEqual(house.letters("far", 3), [])
        house.hear(back.report(12), 12)
        self.assertEqual(kinds(house.letters("far", 12)), ["permit"])

    def test_items_are_withheld_where_a_permit_is_out(self):
        # far has a permit of new, whose items were never sent to it, and its room is gone; front can go to app by now.
        house = rolled("new", span=1000)
        front = join(house, "front", "new")
        machine = standing_so((0, 0, None, 0, ()), (held("app"), held("new")), graded(1))
        house.add_machine("far", KEY, FACTS, 0, machine.report(0), behind="front")
        self.assertEqual(kinds(house.letters("far", 0)), ["permit"])
        house.roll("old", 1)
        machine.take(house.letters("far", 1)[0], 1, writes=0, torn=True)
        machine.start(1)
        house.hear(machine.report(2), 2)
        self.assertEqual(house.can_ever("far", 2), [TAGS["app"]])
        house.roll("app", 3)
        bring_items(house, front, 3)
        self.assertEqual(kinds(house.letters("front", 4)), ["permit"])
        house.roll("new", 5)
        self.assertTrue(house.is_wanted("far", 5))
        self.assertEqual(house.letters("far", 5), [])
        self.assertEqual(house.can_ever("far", 5), [TAGS["app"]])

    def test_a_list_is_withheld_and_those_behind_it(self):
        # far has a permit of new, but no list that has it any more; front can go to app by now.
        house = shelved(span=1000)
        publish(house, 1, names=("app", "web"))
        publish(house, 2)
        house.roll("new", 0)
        front = join(house, "front", "new")
        machine = standing_so((0, 0, None, 0, ()), (held("app"), held("new")), graded(2))
        house.add_machine("far", KEY, FACTS, 0, machine.report(0), behind="front")
        self.assertEqual(kinds(house.letters("far", 0)), ["permit"])
        publish(house, 3, names=("app", "web"))
        machine.take(house.letters("far", 1)[0], 1)
        house.hear(machine.report(2), 2)
        self.assertEqual(house.can_ever("far", 2), [TAGS["app"]])
        house.roll("app", 3)
        bring_items(house, front, 3)
        self.assertEqual(kinds(house.letters("front", 4)), ["permit"])
        # The next list has new again: it is withheld, and the items of web behind it, which would do no harm.
        publish(house, 4)
        house.roll("web", 5)
        self.assertEqual(kinds(house.letters_due(house.fars["far"], 5)), ["list", "items"])
        self.assertEqual(house.letters("far", 5), [])
        publish(house, 5, names=("app", "web"))
        self.assertEqual(kinds(house.letters("far", 6)), ["list", "items"])

    def test_marked_permits_and_the_charter_that_lets_them(self):
        # dan's key is the house's, and its next charter's; the permit comes first, the charter is withheld.
        holders = HOLDERS + (("dan", 50),)
        first = (3, holders, (2, 2, 4))
        second = (4, holders, (2, 2, 1))
        house = shelved(span=1000, holders=holders[3:], charter=first)
        publish(house)
        house.roll("new", 0)
        join(house, "front", "new", charter=first)
        machine = standing_so((0, 0, None, 0, ()), (held("app"), held("new")), graded(1), first)
        house.add_machine("far", KEY, FACTS, 0, machine.report(0), behind="front")
        self.assertEqual(kinds(house.letters("far", 0)), ["permit"])
        self.assertEqual(house.can_ever("far", 0), [TAGS["app"]])
        house.new_charter(second, marks_by(holders, "charter", second))
        # front goes to app; then new would be too high behind it.
        other = house.copy()
        other.roll("app", 1)
        bring_items(other, made("front", title="new", charter=first), 1)
        self.assertEqual(kinds(other.letters("front", 2)), ["permit"])
        self.assertEqual(other.can_ever("front", 2), sorted([TAGS["app"], TAGS["new"]]))
        other.roll("web", 2)
        self.assertEqual(other.letters("far", 2), [])
        # Without that the charter is told.
        self.assertEqual(kinds(house.letters("far", 2)), ["charter", "permit"])

    def test_alone_nothing_is_withheld(self):
        for name in BUILDS:
            house = rolled(name)
            machine = join(house, title="app" if name != "app" else "new")
            bring(house, machine, 0)
            self.assertEqual(machine.runs(), TAGS[name])

    def test_what_is_withheld_is_not_given(self):
        house = rolled("new", span=100)
        join(house, "front", "web")
        machine = join(house, behind="front")
        bring_items(house, machine)
        self.assertEqual(house.letters("far", 1), [])
        self.assertEqual(house.can_ever("far", 1), [TAGS["app"]])

    def test_a_chain_comes_from_its_front_and_goes_back_from_its_end(self):
        house = rolled("new", span=5)
        machines = [join(house, "ma"), join(house, "mb", behind="ma"), join(house, "mc", behind="mb")]
        for name, order in (("new", machines), ("old", machines[::-1]), ("web", machines)):
            house.roll(name, house.fars["ma"].heard[1][2])
            came = []
            for moment in range(house.fars["ma"].heard[1][2] + 1, house.fars["ma"].heard[1][2] + 40):
                for machine in machines:
                    round_of(house, machine, moment)
                    if machine.runs() == TAGS[name] and machine not in came:
                        came.append(machine)
                grades = [house.grades[machine.runs()] for machine in machines]
                self.assertEqual(grades, sorted(grades, reverse=True))
            self.assertEqual([machine.name for machine in came], [machine.name for machine in order])


def bring_items(house, machine, moment=0):
    """Let a machine take all letters till items are whole, and the house hear of it; no permit is asked for."""
    take_all(machine, house.letters(machine.name, moment), moment)
    house.hear(machine.report(moment + 1), moment + 1)


def items_gone(machine):
    """The machine with the tag of its other room torn."""
    other = machine.copy()
    other.take(("items", TAGS["old"], TAGS["app"], 0, ()), 1, writes=0, torn=True)
    other.start(1)
    return other


class Given(unittest.TestCase):
    def test_letters_are_taken(self):
        house = rolled()
        machine = made()
        house.add_machine("far", KEY, FACTS, 0, machine.report(0))
        for moment, expected in ((0, ["list", "items"]), (1, ["permit"])):
            letters = house.letters("far", moment)
            self.assertEqual(kinds(letters), expected)
            self.assertEqual(take_all(machine, letters, moment), ["taken"] * len(letters))
            house.hear(machine.report(moment), moment)
        self.assertEqual(house.letters("far", 2), [])
