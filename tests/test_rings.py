"""Points 23 and 24: which ring is open, since when a machine is found well, and which one is wanted."""

import itertools
import unittest

from tests.helpers import asked
from tests.houses import join, publish, rolled, shelved, take_all
from tests.makers import BUILDS, TAGS, cells_of, held, standing_so, switched_on

EDGE = 999


def reported(house, boot, rooms, moment, name="far", writes=20, heard=None):
    """Let a house hear of a machine that stands so."""
    machine = switched_on(cells_of(boot, rooms, writes=writes))
    machine.name = name
    return house.hear(machine.report(moment), moment if heard is None else heard)


def on_trial(end=500, tries=1, number=1):
    return (0, number, end, tries, ()), (held("app"), held("web"))


def well(number=1, failed=()):
    return (1, number, None, 0, failed), (held("app"), held("web"))


def back(number=1, failed=()):
    return (0, number, None, 0, failed), (held("app"), held("web"))


class Open(unittest.TestCase):
    def opens(self, house, moment):
        told = [asked(house.is_open, ring, moment) for ring in range(4)]
        for truth in told:
            self.assertIs(type(truth), bool)
        return told

    def test_no_roll_out(self):
        house = shelved()
        self.assertEqual(self.opens(house, 0), [False] * 4)
        publish(house)
        house.roll("web", 0)
        self.assertEqual(self.opens(house, 0), [True] * 4)
        house.stop(1)
        self.assertEqual(self.opens(house, 1), [False] * 4)

    def test_none_to_three_gates(self):
        for many in range(4):
            house = rolled("web", ((1, 0, 0),) * many)
            self.assertEqual(self.opens(house, 0), [ring == 0 or ring > many for ring in range(4)])
            house = rolled("web", ((0, EDGE, 0),) * many)
            self.assertEqual(self.opens(house, 0), [True] * 4)

    def test_each_ring_by_its_own_gate(self):
        for needs in itertools.product((0, 1), repeat=3):
            house = rolled("web", tuple((need, 0, EDGE) for need in needs))
            self.assertEqual(self.opens(house, 0), [True] + [need == 0 for need in needs])

    def test_need_by_machines_in_lesser_rings(self):
        for ring in range(4):
            house = rolled("web", ((1, 0, EDGE), (1, 0, EDGE), (1, 0, EDGE)), moment=0)
            join(house, ring=ring, title="web")
            self.assertEqual(self.opens(house, 0), [True] + [other > ring for other in (1, 2, 3)])

    def test_at_least_need(self):
        for need in range(5):
            house = rolled("web", ((need, 0, EDGE),))
            for many in range(4):
                self.assertEqual(self.opens(house, 0)[1], many >= need)
                join(house, "m" + "abcd"[many], title="web")
            # One of another build doesn't count.
            join(house, "other")
            self.assertEqual(self.opens(house, 0)[1], 4 >= need)

    def test_for_wait_or_longer(self):
        for wait in (0, 1, 10, EDGE):
            house = rolled("web", ((1, wait, EDGE),), moment=5)
            join(house, title="web", moment=20)
            for moment in (0, 19, 20, 21, 20 + wait - 1, 20 + wait, 20 + wait + 1, 10 ** 9):
                self.assertEqual(self.opens(house, moment)[1], moment - 20 >= wait, (wait, moment))

    def test_at_most_most_failed(self):
        for most in range(3):
            house = rolled("web", ((0, 0, most),))
            for many in range(4):
                self.assertEqual(self.opens(house, 0)[1], many <= most)
                name = "m" + "abcd"[many]
                join(house, name)
                self.assertEqual(reported(house, *back(failed=(TAGS["web"],)), 3, name), "taken")
            # What failed elsewhere, or of another build, doesn't count.
        house = rolled("web", ((0, 0, 0),))
        join(house, ring=1)
        reported(house, *back(failed=(TAGS["web"],)), 3)
        self.assertTrue(self.opens(house, 3)[1])
        join(house, "near")
        reported(house, *back(failed=(TAGS["app"], TAGS["new"])), 3, "near")
        self.assertTrue(self.opens(house, 3)[1])

    def test_failed_and_running_well_both_count(self):
        # By a report it can fail, and an elder list of failed ones stands beside what runs.
        house = rolled("web", ((1, 0, 0),))
        join(house)
        reported(house, *well(failed=(TAGS["web"],)), 3)
        self.assertFalse(self.opens(house, 3)[1])
        house.roll("web", 0, gates=((1, 0, 1),))
        self.assertTrue(self.opens(house, 3)[1])

    def test_failed_no_more(self):
        house = rolled("web", ((0, 0, 0),))
        join(house)
        reported(house, *back(failed=(TAGS["web"],)), 3)
        self.assertFalse(self.opens(house, 3)[1])
        reported(house, *back(number=2), 4, writes=21)
        self.assertTrue(self.opens(house, 4)[1])


class Since(unittest.TestCase):
    """Since when a machine is found well, looked at by gates of each wait."""

    def since(self, house, last=200):
        """The moment since which the only machine is found well, None where it isn't."""
        found = [moment for moment in range(last) if house.is_open(1, moment)]
        return found[0] if found else None

    def gated(self, moment=0, wait=0):
        return rolled("web", ((1, wait, EDGE),), moment=moment)

    def test_by_add_machines_report(self):
        for begun, moment, since in ((0, 7, 7), (9, 7, 9), (7, 7, 7)):
            house = self.gated(begun)
            join(house, title="web", moment=moment)
            self.assertEqual(self.since(house), since)
            # Each later report tells so, too: it is the first that counts.
            self.assertEqual(reported(house, (0, 0, None, 0, ()), (held("web"), held("app")), 30), "taken")
            self.assertEqual(self.since(house), since)

    def test_by_later_reports(self):
        for begun, heard, since in ((0, 12, 12), (20, 12, 20), (12, 12, 12)):
            house = self.gated(begun)
            join(house)
            self.assertIsNone(self.since(house))
            self.assertEqual(reported(house, *on_trial(), 8, writes=19), "taken")
            self.assertIsNone(self.since(house))
            # The moment of hearing counts, not the report's own.
            self.assertEqual(reported(house, *well(), 10, heard=heard), "taken")
            self.assertEqual(self.since(house), since)
            reported(house, *well(), 15, heard=40)
            self.assertEqual(self.since(house), since)

    def test_with_something_on_trial_it_is_not(self):
        for tries in (0, 1, 2):
            house = self.gated()
            join(house, title="web")
            reported(house, (0, 4, 60, tries, ()), (held("web"), held("app")), 10)
            self.assertIsNone(self.since(house))
            reported(house, (0, 4, None, 0, (TAGS["app"],)), (held("web"), held("app")), 25, writes=30)
            self.assertEqual(self.since(house), 25)

    def test_gone_back_from_and_come_again(self):
        house = self.gated()
        join(house)
        for nth, (boot, rooms, since) in enumerate((
            well() + (10,), well() + (10,), back(2) + (None,), back(2) + (None,), well(3) + (50,), well(3) + (50,),
        )):
            self.assertEqual(reported(house, boot, rooms, 10 * (nth + 1), writes=20 + nth), "taken")
            self.assertEqual(self.since(house), since)

    def test_a_report_that_is_old_counts_for_nothing(self):
        house = self.gated()
        join(house)
        reported(house, *well(), 10, writes=30)
        self.assertEqual(reported(house, *back(), 11, writes=29), "old")
        self.assertEqual(reported(house, *well(), 12, writes=30, heard=60), "taken")
        self.assertEqual(self.since(house), 10)

    def test_a_roll_out_begun_anew(self):
        house = self.gated(0)
        join(house, title="web", moment=3)
        self.assertEqual(self.since(house), 3)
        house.roll("web", 40, gates=((1, 0, EDGE),))
        self.assertEqual(self.since(house), 40)
        # Of another build it is another one that has to run well.
        house.roll("app", 41, gates=((1, 0, EDGE),))
        self.assertIsNone(self.since(house))
        house.roll("web", 42, gates=((1, 5, EDGE),))
        self.assertEqual(self.since(house), 47)

    def test_found_well_ahead_of_the_roll_out(self):
        # The other room's build, found well while another roll-out was on.
        house = rolled("app", ((1, 0, EDGE),))
        join(house)
        reported(house, *well(), 10)
        self.assertIsNone(self.since(house))
        for begun, since in ((0, 10), (25, 25)):
            house.roll("web", begun, gates=((1, 0, EDGE),))
            self.assertEqual(self.since(house), since)

    def test_of_the_same_name_but_another_tag(self):
        house = self.gated()
        join(house)
        name, size, total = TAGS["web"]
        reported(house, (1, 1, None, 0, ()), (held("app"), ((name, size, total - 1), BUILDS["web"])), 10)
        self.assertIsNone(self.since(house))


class Wanted(unittest.TestCase):
    def wanted(self, house, moment=5, name="far"):
        told = asked(house.is_wanted, name, moment)
        self.assertIs(type(told), bool)
        return told

    def test_it_is(self):
        house = rolled()
        join(house)
        self.assertTrue(self.wanted(house))

    def test_no_roll_out(self):
        house = shelved()
        publish(house)
        join(house)
        self.assertFalse(self.wanted(house))
        house.roll("web", 0)
        house.stop(0)
        self.assertFalse(self.wanted(house))

    def test_its_ring(self):
        for ring in range(4):
            for many in range(4):
                house = rolled("web", ((1, 0, 0),) * many)
                join(house, ring=ring)
                self.assertEqual(self.wanted(house), ring == 0 or ring > many)

    def test_its_ring_opens_in_time(self):
        house = rolled("web", ((1, 4, 0),), moment=3)
        join(house, "near", "web")
        join(house, ring=1)
        self.assertEqual([self.wanted(house, moment) for moment in range(10)], [moment >= 7 for moment in range(10)])

    def test_the_lists_until(self):
        house = shelved()
        publish(house, until=20)
        house.roll("web", 0)
        join(house)
        for moment in (0, 19, 20, 21, 10 ** 9):
            self.assertEqual(self.wanted(house, moment), moment <= 20)
        publish(house, 2, until=30)
        self.assertEqual([self.wanted(house, moment) for moment in (21, 30, 31)], [True, True, False])

    def test_no_entry_any_more(self):
        house = rolled()
        join(house)
        publish(house, 2, names=("app", "new"))
        self.assertFalse(self.wanted(house))
        publish(house, 3, names=("web",))
        self.assertTrue(self.wanted(house))

    def test_its_rule(self):
        for rule, wanted in (
            (("least", "disk", 5), True), (("least", "disk", 6), False), (("is", "os", "linux"), True), (("is", "os", "mac"), False),
            (("any",), False), (("not", ("is", "none", 1)), True),
        ):
            house = shelved()
            publish(house, rule=rule)
            house.roll("web", 0)
            join(house)
            self.assertEqual(self.wanted(house), wanted)

    def test_each_by_its_own_facts(self):
        house = shelved()
        publish(house, rule=("least", "disk", 5))
        house.roll("web", 0)
        join(house, facts={})
        join(house, "near", facts={"disk": 999})
        self.assertEqual([self.wanted(house), self.wanted(house, name="near")], [False, True])

    def test_something_on_trial(self):
        for tries in (0, 1, 2):
            for rooms in ((held("app"), held("web")), (held("app"), held("new"))):
                house = rolled()
                join(house)
                reported(house, (0, 1, 3, tries, ()), rooms, 2)
                self.assertFalse(self.wanted(house))

    def test_it_runs_already(self):
        house = rolled()
        join(house, title="web")
        self.assertFalse(self.wanted(house))
        house.roll("app", 0)
        self.assertTrue(self.wanted(house))

    def test_it_failed(self):
        house = rolled()
        join(house)
        reported(house, *back(failed=(TAGS["new"], TAGS["web"])), 2)
        self.assertFalse(self.wanted(house))
        house.roll("old", 0)
        self.assertTrue(self.wanted(house))
        house.roll("new", 0)
        self.assertFalse(self.wanted(house))

    def test_by_the_report_heard_last(self):
        house = rolled()
        machine = join(house)
        take_all(machine, house.letters("far", 0), 0)
        house.hear(machine.report(0), 0)
        take_all(machine, house.letters("far", 0), 0)
        machine.start(1)
        machine.well()
        self.assertEqual(machine.runs(), TAGS["web"])
        self.assertTrue(self.wanted(house))
        house.hear(machine.report(2), 2)
        self.assertFalse(self.wanted(house))

    def test_as_standing_machines_tell(self):
        # The plain words of point 24 over all that a report can tell.
        for room, end, tries, failed in itertools.product((0, 1), (None, 9), (0, 1, 2), ((), (TAGS["web"],), (TAGS["app"],))):
            house = rolled()
            join(house)
            boot = (room, 1, end, tries, failed)
            machine = standing_so(boot, (held("app"), held("web")))
            house.hear(machine.report(3), 3)
            self.assertEqual(self.wanted(house), end is None and room == 0 and TAGS["web"] not in failed, boot)
