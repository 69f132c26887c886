"""Machines, which take letters, write them cell by cell, and run what was permitted."""

from farbuilds.builds import row_of, tag_of
from farbuilds.cells import do_write, first_cells, running_room, standing, tear_write
from farbuilds.deeds import start_writes, taken_writes, well_writes
from farbuilds.errors import Off
from farbuilds.reports import report_of


class Machine:
    """A machine; it is made on, with a build by its name, title."""

    def __init__(self, name, key, facts, charter, title, build, *, seen=None):
        row = row_of(build)
        self.name = name
        self.key = key
        self.facts = dict(facts)
        self.store = first_cells(charter, tag_of(title, row), row)
        self.lit = True
        self.seen = seen

    def __eq__(self, other):
        return (
            isinstance(other, Machine) and self.name == other.name and self.key == other.key
            and self.facts == other.facts and self.store == other.store and self.lit == other.lit
        )

    def take(self, letter, moment, *, writes=None, torn=False):
        """Take a letter, which may be anything, and tell a word; None where the taking was cut."""
        self.need_on()
        word, due = taken_writes(self.name, self.facts, self.store, letter, moment)
        return word if self.carry_out(due, writes, torn) else None

    def start(self, moment, *, writes=None, torn=False):
        """Start, whether on or off, and tell the tag that runs; None where the start was cut."""
        if not self.carry_out(start_writes(self.store, moment), writes, torn):
            return None
        self.lit = True
        return self.runs()

    def well(self, *, writes=None, torn=False):
        """Find well what runs on trial, and tell whether there was any; None where that was cut."""
        self.need_on()
        due = well_writes(self.store)
        return len(due) > 0 if self.carry_out(due, writes, torn) else None

    def off(self):
        """Turn off."""
        self.lit = False

    def need_on(self):
        """Refuse with Off when off."""
        if not self.lit:
            raise Off()

    def carry_out(self, due, writes, torn):
        """Do the writes that are due, only so many of them, and tell whether that was all; if not, turn off."""
        for nth, write in enumerate(due):
            if writes is not None and nth >= writes:
                if torn:
                    self.store = tear_write(self.store, write)
                self.lit = False
                return False
            self.look_ahead(write[0])
            self.store = do_write(self.store, write)
        return True

    def look_ahead(self, word):
        """Call seen ahead of a write; whatever it refuses with, turn off."""
        seen = self.seen
        if seen is None:
            return
        # Refusals of any class come through here, so that none is named.
        passed = None
        try:
            seen(word)
            passed = True
        finally:
            if passed is None:
                self.lit = False

    def runs(self):
        """Tell the tag of what runs, None when off."""
        return self.store[2][running_room(self.boot())][0] if self.lit else None

    def running_row(self):
        """Tell the items of what runs."""
        self.need_on()
        return self.store[2][running_room(self.boot())][1]

    def cells(self):
        """Tell the cells, of which opened makes a machine."""
        return self.store

    def charter(self):
        """Tell the charter that stands."""
        return standing(self.store)[1]

    def listing(self):
        """Tell the list that stands, or None."""
        return standing(self.store)[2]

    def boot(self):
        """Tell the boot that stands."""
        return standing(self.store)[3]

    def is_on(self):
        """Tell whether it is on."""
        return self.lit

    def report(self, moment):
        """Tell a report of how it stands."""
        self.need_on()
        return report_of(self.name, self.key, self.store, moment)

    def copy(self):
        """Tell another machine that stands alike, without seen."""
        other = opened(self.name, self.key, self.facts, self.store)
        other.lit = self.lit
        return other


def opened(name, key, facts, cells):
    """Tell a machine with cells as they were told; it is off."""
    # The build is made up: the cells take its place.
    machine = Machine(name, key, facts, standing(cells)[1], "blank", (("blank", ()),))
    machine.store = cells
    machine.lit = False
    return machine
