"""Point 20: take, of anything: each kind of letter, each word in its order."""

import itertools
import unittest

from farbuilds.errors import Off
from farbuilds.sums import sum_of
from tests.helpers import as_list, changed_once, more_or_fewer, of_another_kind, refusal, things, unchanged
from tests.makers import (
    ANY, CHARTER, EMPTY, FACTS, HOLDERS, ROWS, TAGS, charter_letter, held, items_letter, list_letter, listed, made, marks_by,
    permit_letter, standing_so, trial,
)

NEVER = ("any",)
BOOT = (0, 4, None, 0, ())
ROOMS = (held("app"), held("web"))


def subsets(words):
    return itertools.chain.from_iterable(itertools.combinations(words, many) for many in range(len(words) + 1))


class Taking(unittest.TestCase):
    def takes(self, machine, letter, moment, word):
        """What isn't taken changes nothing, whatever writes are let; a copy tells the same."""
        before = machine.cells()
        if word != "taken":
            self.assertEqual(machine.take(letter, moment, writes=0, torn=True), word)
        self.assertEqual(unchanged(machine.copy().take, letter, moment), word)
        self.assertEqual(machine.take(letter, moment), word, letter)
        self.assertIs(machine.is_on(), True)
        if word != "taken":
            self.assertEqual(machine.cells(), before)
        return machine

    def first_of(self, order, faults):
        return ([word for word in order if word in faults] + ["taken"])[0]


class Charters(Taking):
    def test_each_word(self):
        for number in range(1, 8):
            for by, enough in ((HOLDERS, True), (HOLDERS[:2], True), (HOLDERS[:1], False), ((), False)):
                word = "known" if number <= 3 else "far" if number > 4 else "taken" if enough else "unmarked"
                machine = self.takes(made(), charter_letter(number, by=by), 0, word)
                self.assertEqual(machine.charter()[0], 4 if word == "taken" else 3)

    def test_what_is_written(self):
        for machine in (made(), trial(2), trial(1), trial(0)):
            writes, marks, rooms = machine.cells()
            boot, listing, runs = machine.boot(), machine.listing(), machine.runs()
            letter = charter_letter(4, HOLDERS + (("dee", 900),), (3, 3, 3))
            self.takes(machine, letter, 10 ** 9, "taken")
            self.assertEqual((machine.charter(), machine.listing(), machine.boot()), (letter[1], listing, boot))
            self.assertEqual((machine.cells()[0], machine.cells()[2], machine.runs()), (writes + 1, rooms, runs))
            self.takes(machine, letter, 10 ** 9, "known")

    def test_by_both_charters_needs(self):
        new = (("ann", 500), ("dee", 600))
        self.takes(made(), charter_letter(4, new, (2, 1, 1)), 0, "unmarked")
        self.takes(made(), charter_letter(4, new, (2, 1, 1), by=new), 0, "unmarked")
        self.takes(made(), charter_letter(4, new, (2, 1, 1), by=new + HOLDERS), 0, "taken")

    def test_chains(self):
        machine = made()
        for number in (4, 5, 6):
            self.takes(machine, charter_letter(number + 1), 0, "far")
            self.takes(machine, charter_letter(number), 0, "taken")
        for number in (1, 3, 4, 5, 6):
            self.takes(machine, charter_letter(number), 0, "known")

    def test_the_new_charter_counts_from_then_on(self):
        new = tuple((name, key + 100) for name, key in HOLDERS)
        machine = made()
        self.takes(machine, charter_letter(4, new, by=HOLDERS + new), 0, "taken")
        self.takes(machine, list_letter(1), 0, "unmarked")
        self.takes(machine, list_letter(1, by=new), 0, "taken")
        self.takes(machine, items_letter("web", "app"), 0, "taken")
        self.takes(machine, permit_letter(1, "web"), 0, "unmarked")
        self.takes(machine, permit_letter(1, "web", by=new), 0, "taken")


class Lists(Taking):
    ORDER = ("known", "unmarked", "past")

    def test_each_word_in_its_order(self):
        for faults in subsets(self.ORDER):
            machine = standing_so(BOOT, ROOMS, listed(5, 0, ()))
            numbers = (1, 4, 5) if "known" in faults else (6, 7, 999)
            for number in numbers:
                letter = list_letter(number, until=50, by=HOLDERS[:1] if "unmarked" in faults else HOLDERS[1:])
                word = self.first_of(self.ORDER, faults)
                self.takes(machine.copy(), letter, 51 if "past" in faults else 50, word)

    def test_the_first_list(self):
        for number, moment in itertools.product((1, 2, 999), (0, 49, 50)):
            machine = self.takes(made(), list_letter(number, until=50), moment, "taken")
            self.assertEqual(machine.listing(), list_letter(number, until=50)[1])
        self.takes(made(), list_letter(1, until=50), 51, "past")
        self.takes(made(), list_letter(1, until=0, names=()), 0, "taken")
        self.takes(made(), list_letter(1, until=10 ** 9), 10 ** 9, "taken")

    def test_what_is_written(self):
        for machine in (made(), trial(2), trial(1), trial(0)):
            writes, marks, rooms = machine.cells()
            boot, runs = machine.boot(), machine.runs()
            letter = list_letter(7, names=("new",))
            self.takes(machine, letter, 0, "taken")
            self.assertEqual((machine.charter(), machine.listing(), machine.boot()), (CHARTER, letter[1], boot))
            self.assertEqual((machine.cells()[0], machine.cells()[2], machine.runs()), (writes + 1, rooms, runs))
            self.takes(machine, letter, 0, "known")


class Items(Taking):
    ORDER = ("trial", "runs", "base", "place", "wrong")

    def test_each_word_in_its_order(self):
        for faults in subsets(self.ORDER):
            self.one(faults)

    def one(self, faults):
        steps = (("old", 9, 9),) if "wrong" in faults else (("new", ROWS["web"][2:]),)
        name = "app" if "runs" in faults else "web"
        base = "old" if "base" in faults else "app"
        boot = (0, 4, 1000, 2, ()) if "trial" in faults else BOOT
        # Where nothing bars it, the letter goes on from the second item.
        rooms = (held("app"), held(name, 3 if "place" in faults else 2))
        word = self.first_of(self.ORDER, faults)
        self.takes(standing_so(boot, rooms), items_letter(name, base, 2, steps), 0, word)

    def test_trial_in_each_of_its_states(self):
        for tries in (0, 1, 2):
            for name, base in (("web", "app"), ("app", "web"), ("new", "app"), ("new", "web")):
                self.takes(trial(tries), items_letter(name, base), 0, "trial")
        for end in (0, 50):
            self.takes(standing_so((0, 4, end, 2, ()), ROOMS), items_letter("new", "app"), 51, "trial")

    def test_places(self):
        rooms = (held("app"), held("web", 3))
        for at in range(7):
            word = "taken" if at in (0, 3) else "place"
            self.takes(standing_so(BOOT, rooms), items_letter("web", "app", at), 0, word)
        for at in (1, 2, 3):
            self.takes(standing_so(BOOT, rooms), items_letter("old", "app", at), 0, "place")
        self.takes(standing_so(BOOT, rooms), items_letter("old", "app"), 0, "taken")
        self.takes(standing_so(BOOT, (held("app"), EMPTY)), items_letter("old", "app", 1), 0, "place")
        # The same name with another size or sum is another tag.
        name, size, total = TAGS["web"]
        for tag in ((name, size + 1, total), (name, size, total + 1)):
            self.takes(standing_so(BOOT, rooms), ("items", tag, TAGS["app"], 3, ()), 0, "place")
            self.takes(standing_so(BOOT, rooms), ("items", TAGS["new"], tag, 0, ()), 0, "base")

    def test_at_60(self):
        row = ("=a",) + ("x",) * 59
        tag = ("big", 60, 0)
        machine = standing_so(BOOT, (held("app"), (tag, row)))
        self.takes(machine, ("items", tag, TAGS["app"], 60, ()), 0, "taken")
        self.takes(machine, ("items", tag, TAGS["app"], 60, (("new", ("x",)),)), 0, "wrong")
        self.takes(machine, ("items", tag, TAGS["app"], 61, ()), 0, "strange")

    def test_steps_that_are_refused(self):
        # app has four items, web six.
        for steps, word in (
            ((("old", 0, 4),), "taken"), ((("old", 0, 5),), "wrong"), ((("old", 4, 1),), "wrong"), ((("old", 3, 1),), "taken"),
            ((("own", 0, 1),), "wrong"), ((("new", ("x",)), ("own", 0, 5)), "taken"), ((("new", ("x",)), ("own", 0, 6)), "wrong"),
            ((("new", ("x",)), ("own", 1, 1)), "wrong"), ((("new", ("x",) * 6),), "taken"), ((("new", ("x",) * 7),), "wrong"),
            ((("new", ("x",) * 61),), "wrong"), ((), "taken"),
        ):
            self.takes(made(), ("items", TAGS["web"], TAGS["app"], 0, steps), 0, word)

    def test_too_many_by_the_size_from_a_count_on(self):
        machine = standing_so(BOOT, (held("app"), held("web", 3)))
        for many, word in ((3, "taken"), (4, "wrong")):
            self.takes(machine.copy(), ("items", TAGS["web"], TAGS["app"], 3, (("new", ("x",) * many),)), 0, word)

    def test_what_is_written_in_one_letter(self):
        machine = self.takes(made(), items_letter("web", "app"), 0, "taken")
        self.assertEqual(machine.cells(), (7,) + made().cells()[1:2] + (ROOMS,))
        self.assertEqual(machine.runs(), TAGS["app"])
        again = self.takes(machine, items_letter("web", "app"), 0, "taken")
        self.assertEqual(again.cells()[0], 14)

    def test_in_several_letters_with_old_and_own_steps(self):
        machine = made()
        web = ROWS["web"]
        self.assertEqual(web, ("=conf", "x", "=main", "z", "z", "z"))
        for at, steps, to, writes in (
            (0, (), 0, 1), (0, (("old", 0, 2),), 2, 4), (2, (("old", 3, 1),), 3, 5), (3, (), 3, 5), (3, (("new", ("z",)),), 4, 6),
            (4, (("own", 3, 2),), 6, 8), (6, (), 6, 8),
        ):
            self.takes(machine, ("items", TAGS["web"], TAGS["app"], at, steps), 0, "taken")
            self.assertEqual(machine.cells()[2], (held("app"), held("web", to)))
            self.assertEqual(machine.cells()[0], writes)

    def test_the_room_that_does_not_run_is_filled(self):
        for room in (0, 1):
            rooms = (held("app"), held("web")) if room == 0 else (held("web"), held("app"))
            machine = self.takes(standing_so((room, 4, None, 0, ()), rooms), items_letter("new", "app"), 0, "taken")
            self.assertEqual(machine.cells()[2][room], held("app"))
            self.assertEqual(machine.cells()[2][1 - room], held("new"))

    def test_items_of_whatever_sum_are_taken(self):
        machine = self.takes(made(), ("items", TAGS["web"], TAGS["app"], 0, (("new", ("q",)),)), 0, "taken")
        self.assertEqual(machine.cells()[2][1], (TAGS["web"], ("q",)))

    def test_at_no_moment_is_it_past(self):
        self.takes(made(), items_letter("web", "app"), 10 ** 9, "taken")


class Permits(Taking):
    ORDER = ("other", "old", "unmarked", "over", "unlisted", "past", "unlet", "trial", "runs", "failed", "room")

    def test_each_word_in_its_order(self):
        for faults in subsets(self.ORDER):
            for nth in range(3):
                self.one(faults, nth)

    def one(self, faults, nth):
        """A permit of web at 20, with these faults, of which some are of three kinds."""
        names = ("app", "new") if "unlisted" in faults else ("app", "new", "web")
        until = (19, 0, 10)[nth] if "past" in faults else (20, 21, 1000)[nth]
        rule = (NEVER, ("is", "os", "bsd"), ("least", "disk", 6))[nth] if "unlet" in faults else \
            (ANY, ("is", "os", "linux"), ("most", "disk", 5))[nth]
        listing = listed(2, until, names, rule)
        if "unlisted" in faults and "past" not in faults and nth == 2:
            listing = None
        other = (EMPTY, held("web", 5), (TAGS["web"], ROWS["web"][:5] + ("y",)))[nth] if "room" in faults else held("web")
        rooms = (held("web" if "runs" in faults else "app"), other)
        end = (0, 20, 1000)[nth] if "trial" in faults else None
        boot = (0, (7, 8, 99999)[nth] if "old" in faults else (6, 0, 5)[nth], end, 2, (TAGS["new"], TAGS["web"])[:2 if "failed" in faults else 1])
        letter = permit_letter(
            7, "web", end=(19, 0, 10)[nth] if "over" in faults else (20, 21, 1000)[nth], machine="near" if "other" in faults else "far",
            by=((), HOLDERS[:1], HOLDERS[2:])[nth] if "unmarked" in faults else (HOLDERS, HOLDERS[:2], HOLDERS[1:])[nth],
        )
        self.takes(standing_so(boot, rooms, listing), letter, 20, self.first_of(self.ORDER, faults))

    def test_trial_in_each_of_its_states(self):
        for tries, name in itertools.product((0, 1, 2), ("web", "app", "new")):
            self.takes(trial(tries), permit_letter(2, name), 0, "trial")

    def test_what_is_written(self):
        for room, failed in itertools.product((0, 1), ((), (TAGS["new"],), (TAGS["new"], TAGS["old"]))):
            rooms = ROOMS if room == 0 else ROOMS[::-1]
            listing = listed(2, 1000, ("web",))
            machine = standing_so((room, 4, None, 0, failed), rooms, listing)
            writes, marks, before = machine.cells()
            self.takes(machine, permit_letter(99999, "web", 50), 50, "taken")
            self.assertEqual(machine.boot(), (room, 99999, 50, 2, failed))
            self.assertEqual((machine.charter(), machine.listing()), (CHARTER, listing))
            self.assertEqual((machine.cells()[0], machine.cells()[2]), (writes + 1, before))
            self.assertEqual(machine.runs(), TAGS["app"])
            self.takes(machine, permit_letter(99999, "web", 50), 50, "old")

    def test_moments(self):
        for moment, end, until in itertools.product((0, 29, 30, 31, 10 ** 9), (0, 30, 10 ** 9), (0, 30, 10 ** 9)):
            word = "over" if moment > end else "past" if moment > until else "taken"
            self.takes(standing_so(BOOT, ROOMS, listed(2, until, ("web",))), permit_letter(5, "web", end), moment, word)

    def test_rooms(self):
        listing = listed(2, 1000, ("web", "new"))
        name, size, total = TAGS["web"]
        row = ROWS["web"]
        for room in (
            EMPTY, held("new"), (TAGS["web"], ()), (TAGS["web"], row[:-1]), (TAGS["web"], row[1:]), (TAGS["web"], row[::-1]),
            (TAGS["web"], row + ("z",)), ((name, size, total + 1), row), ((name, size + 1, total), row), (("wet", size, total), row),
            (None, row),
        ):
            self.takes(standing_so(BOOT, (held("app"), room), listing), permit_letter(5, "web"), 0, "room")
        self.takes(standing_so(BOOT, ROOMS, listing), permit_letter(5, "new"), 0, "room")
        # The sum is right, but there are fewer items, or more, than the tag tells.
        for tag in ((name, size + 1, total), (name, size - 1, total)):
            machine = standing_so(BOOT, (held("app"), (tag, row)), (2, 1000, (tag + (0, ANY),)))
            self.takes(machine, permit_letter(5, "web"), 0, "room")
        self.takes(standing_so(BOOT, (held("app"), held("new")), listing), permit_letter(5, "new"), 0, "taken")

    def test_another_row_of_the_same_size_and_sum_is_let_by(self):
        row = ROWS["web"]
        words = ("".join(signs) for signs in itertools.product("abcdefghijklmnopqrstuvwxyz", repeat=3))
        other = next(twin for twin in ((row[0], word) + row[2:] for word in words) if sum_of(twin) == TAGS["web"][2])
        self.assertNotEqual(other, row)
        machine = standing_so(BOOT, (held("app"), (TAGS["web"], other)), listed(2, 9, ("web",)))
        self.takes(machine, permit_letter(5, "web"), 0, "taken")

    def test_entries_of_another_row_by_the_name(self):
        name, size, total = TAGS["web"]
        for entry in ((name, size, total + 1), (name, size + 1, total)):
            listing = (2, 1000, (entry + (0, ANY),))
            self.takes(standing_so(BOOT, ROOMS, listing), permit_letter(5, "web"), 0, "room")
            # It is the entry's tag, not the name, that runs or failed.
            self.takes(standing_so((1, 4, None, 0, ()), ROOMS, listing), permit_letter(5, "web"), 0, "room")
            self.takes(standing_so((0, 4, None, 0, (TAGS["web"],)), ROOMS, listing), permit_letter(5, "web"), 0, "room")
            self.takes(standing_so((0, 4, None, 0, (entry,)), ROOMS, listing), permit_letter(5, "web"), 0, "failed")

    def test_by_each_machines_own_facts(self):
        listing = listed(2, 1000, ("web",), ("all", ("is", "os", "linux"), ("least", "disk", 5)))
        for facts, word in (
            (FACTS, "taken"), ({"os": "linux", "disk": 4}, "unlet"), ({"os": "linux"}, "unlet"), ({}, "unlet"),
            ({"os": "linux", "disk": "big"}, "unlet"), ({"os": "linux", "disk": 999, "more": 1}, "taken"),
        ):
            self.takes(standing_so(BOOT, ROOMS, listing, facts=facts), permit_letter(5, "web"), 0, word)


class Strange(Taking):
    def letters(self):
        return [
            charter_letter(4), list_letter(1, rule=("all", ("is", "os", "linux"), ("not", ("most", "disk", 3)))), permit_letter(1, "web"),
            ("items", TAGS["web"], TAGS["app"], 2, (("old", 0, 2), ("own", 0, 1), ("new", ("x", "=y")))),
        ]

    def test_of_anything(self):
        machine = made()
        for thing in things():
            self.takes(machine, thing, 0, "strange")
            for kind in ("charter", "list", "items", "permit", "report", "", None, 0):
                for letter in ((kind, thing), (kind, thing, ()), (kind, thing, thing), (thing, kind), (kind,), [kind, thing, ()]):
                    self.takes(machine, letter, 0, "strange")
                self.takes(machine, (kind, TAGS["web"], TAGS["app"], 0, thing), 0, "taken" if (kind, thing) == ("items", ()) else "strange")
                self.takes(machine, (kind, TAGS["web"], thing, 0, ()), 0, "strange")
                if kind == "items":
                    machine = made()

    def test_a_list_in_a_tuples_place(self):
        for letter in self.letters():
            # Marks may be anything.
            parts = letter if letter[0] == "items" else letter[:2]
            for other in changed_once(parts, as_list):
                if isinstance(other, tuple):
                    self.takes(made(), other + letter[len(parts):], 0, "strange")
            self.takes(made(), list(letter), 0, "strange")

    def test_one_thing_otherwise(self):
        for letter in self.letters():
            parts = letter[:4] if letter[0] == "items" else letter[:2]
            for other in changed_once(parts, of_another_kind):
                # A list of no entries is one, too.
                if isinstance(other, tuple) and other != ("list", letter[1][:2] + ((),)):
                    self.takes(made(), other + letter[len(parts):], 0, "strange")
                elif not isinstance(other, tuple):
                    self.takes(made(), other, 0, "strange")

    def test_one_thing_of_the_steps_otherwise(self):
        letter = self.letters()[3]
        # No steps are steps, too, and places and counts are of whatever size.
        right = [()] + changed_once(letter[4], lambda part: [10 ** 59] if type(part) is int else [])
        for steps in changed_once(letter[4], of_another_kind):
            if steps not in right:
                self.takes(made(), letter[:4] + (steps,), 0, "strange")
        for steps in ((("old", 10 ** 59, 1),), (("own", 0, 10 ** 59),)):
            self.takes(made(), letter[:3] + (0, steps), 0, "wrong")

    def test_two_things_otherwise(self):
        letter = permit_letter(1, "web")
        for one in changed_once(letter[:2], of_another_kind):
            if isinstance(one, tuple) and len(one) == 2:
                for other in changed_once(one, as_list):
                    if isinstance(other, tuple):
                        self.takes(made(), other + letter[2:], 0, "strange")

    def test_a_part_more_or_fewer(self):
        for letter in self.letters():
            for other in (letter + (None,), letter + ((),), letter[:-1], letter[1:], (None,) + letter, letter[:1], ()):
                self.takes(made(), other, 0, "strange")
            if letter[0] != "items":
                for thing in changed_once(letter[1], more_or_fewer):
                    if thing[:1] == letter[1][:1] and letter[0] != "permit" and len(thing) == 3:
                        continue
                    self.takes(made(), (letter[0], thing, letter[2]), 0, "strange")

    def test_numbers_at_their_bounds_and_truths(self):
        name, size, total = TAGS["web"]
        app = TAGS["app"]
        for at in (0, 1, 59, 60):
            self.assertNotEqual(made().take(("items", TAGS["web"], app, at, ()), 0), "strange")
        for at in (-1, 61, True, False, None, "0", 10 ** 59):
            self.takes(made(), ("items", TAGS["web"], app, at, ()), 0, "strange")
        for tag, right in (
            ((name, 1, total), True), ((name, 60, total), True), ((name, 0, total), False), ((name, 61, total), False),
            ((name, size, 0), True), ((name, size, 996), True), ((name, size, -1), False), ((name, size, 997), False),
            ((name, True, total), False), ((name, size, False), False), (("Web", size, total), False), (("", size, total), False),
        ):
            for letter in (("items", tag, app, 0, ()), ("items", TAGS["new"], tag, 0, ())):
                self.assertEqual(made().take(letter, 0) != "strange", right, letter)

    def test_another_kind_of_thing_by_the_word(self):
        for one, other in itertools.permutations([letter for letter in self.letters() if letter[0] != "items"], 2):
            self.takes(made(), (one[0],) + other[1:], 0, "strange")
        for kind in ("Charter", "charters", "item", "report", "", "permit "):
            for letter in self.letters():
                self.takes(made(), (kind,) + letter[1:], 0, "strange")

    def test_marks_may_be_anything(self):
        for thing in things():
            self.takes(made(), charter_letter(4)[:2] + (thing,), 0, "unmarked")
            self.takes(made(), list_letter(4)[:2] + (thing,), 0, "unmarked")
            self.takes(made(), permit_letter(4, "web")[:2] + (thing,), 0, "unmarked")
        charter = charter_letter(4)
        self.takes(made(), charter[:2] + (tuple(things()) + charter[2],), 0, "taken")

    def test_a_report_is_no_letter_to_a_machine(self):
        self.takes(made(), made().report(0), 0, "strange")


class Kept(Taking):
    def test_marks_handed_in_as_lists_are_not_kept(self):
        machine = made()
        charter = charter_letter(4)
        junk = [1]
        self.takes(machine, charter[:2] + (charter[2] + (junk,),), 0, "taken")
        before = repr(machine.cells())
        junk.append(2)
        self.assertEqual(repr(machine.cells()), before)

    def test_when_off(self):
        for letter in (charter_letter(4), None, "strange"):
            machine = made()
            machine.off()
            self.assertIsInstance(refusal(Off, machine.take, letter, 0), Off)

    def test_under_another_name(self):
        letter = charter_letter(4)
        self.assertEqual(made(name="near").take(letter, 0), "taken")
        self.assertEqual(marks_by(HOLDERS, "charter", letter[1]), letter[2])
