"""Houses: builds on a shelf, far machines, the letters for them, and what each of them can be running."""

from farbuilds.builds import row_of, tag_of
from farbuilds.charters import lets_charter, lets_list
from farbuilds.errors import Known, NoBuild, NoHolder, NoMachine, NoOrder, NoReport, NoRoll, Taken, Unmarked
from farbuilds.fars import Far
from farbuilds.known import searched, told_cells, way_to
from farbuilds.letters import entry_of
from farbuilds.log import Log
from farbuilds.offers import charter_letters, has_whole, items_letter, list_letters, permit_letter
from farbuilds.reports import boot_of, is_marked, is_report, moment_of, ran_tag
from farbuilds.rings import is_failed, is_ring_open
from farbuilds.rules import lets
from farbuilds.words import LAST_MOMENT


class House:
    """A house of a charter, some of whose holders' keys it has; its permits last for span."""

    def __init__(self, charter, holders, *, span=30):
        for holder in holders:
            if holder not in charter[1]:
                raise NoHolder(holder[0])
        self.holders = holders
        self.span = span
        self.tags = {}
        self.rows = {}
        self.grades = {}
        self.fars = {}
        # Charters and lists are kept as tuples with the marks by which they came; the first charter came by none.
        self.charters = [(charter, ())]
        self.lists = []
        self.rolled = None
        self.last_number = 0
        self.ends = {}
        self.logged = Log()

    def add_build(self, name, build, *, grade=0):
        """Put a build on the shelf."""
        if name in self.tags:
            raise Taken(name)
        row = row_of(build)
        tag = tag_of(name, row)
        self.tags[name] = tag
        self.rows[tag] = row
        self.grades[tag] = grade

    def add_machine(self, name, key, facts, ring, report, *, behind=None):
        """Add a machine by its report, behind another one or none."""
        if name in self.fars:
            raise Taken(name)
        if not is_first_report(report, name, key):
            raise NoReport()
        tag = ran_tag(report)
        if tag not in self.rows:
            raise NoBuild(tag)
        if behind is not None and self.grades[tag] > min(self.grades_ever(self.far_of(behind))):
            raise NoOrder(behind)
        self.fars[name] = Far(name, key, facts, ring, behind, report)
        self.logged.add(report)

    def new_charter(self, charter, marks):
        """Take a charter that the last one lets by marks."""
        if not lets_charter(self.last_charter(), charter, marks):
            raise Unmarked()
        self.charters.append((charter, marks))
        self.logged.add(("charter", charter, marks))

    def publish(self, told, marks):
        """Take a list that the last charter lets by marks."""
        if self.lists and told[0] <= self.last_list()[0]:
            raise Known(told[0])
        if not lets_list(self.last_charter(), told, marks):
            raise Unmarked()
        for entry in told[2]:
            if self.grades.get(entry[:3]) != entry[3]:
                raise NoBuild(entry[0])
        self.lists.append((told, marks))
        self.logged.add(("list", told, marks))

    def roll(self, name, moment, *, gates=()):
        """Begin a roll-out of a build that is in the list."""
        if entry_of(self.last_list(), name) is None:
            raise NoBuild(name)
        self.rolled = (name, moment, gates)
        self.logged.add(("roll", name, gates, moment))

    def stop(self, moment):
        """Stop the roll-out."""
        if self.rolled is None:
            raise NoRoll()
        self.rolled = None
        self.logged.add(("stop", moment))

    def hear(self, letter, moment):
        """Hear a report, of anything, and tell a word."""
        if not is_report(letter):
            return "strange"
        far = self.fars.get(letter[1][0])
        if far is None:
            return "unknown"
        if not is_marked(letter, far.key):
            return "unmarked"
        if not far.is_news(letter):
            return "old"
        far.keep_report(letter, moment)
        self.logged.add(letter)
        return "taken"

    def letters(self, name, moment):
        """Tell the letters for a machine, which are given to it then."""
        far = self.far_of(name)
        lows, highs = self.grades_about(far)
        told = []
        for letter in self.letters_due(far, moment):
            given = far.given_with(letter, moment)
            if not self.keeps_order(far, given, lows, highs):
                break
            self.give(far, letter, given)
            told.append(letter)
        return told

    def is_open(self, ring, moment):
        """Tell whether a ring is open at a moment; without a roll-out none is."""
        if self.rolled is None:
            return False
        name, begun, gates = self.rolled
        return is_ring_open(ring, gates, list(self.fars.values()), self.tags[name], begun, moment)

    def is_wanted(self, name, moment):
        """Tell whether a machine is to come to the build rolled out, as it stands at a moment."""
        far = self.far_of(name)
        if not self.is_open(far.ring, moment):
            return False
        listing, tag = self.last_list(), self.tags[self.rolled[0]]
        entry = entry_of(listing, tag[0])
        if entry is None or listing[1] < moment or not lets(entry[4], far.facts):
            return False
        return boot_of(far.heard)[2] is None and ran_tag(far.heard) != tag and not is_failed(far, tag)

    def last_end(self, name):
        """Tell the greatest end of the permits of a build that were given; None where there are none."""
        return self.ends.get(name)

    def can_run(self, name, moment):
        """Tell the rising list of the tags that a machine can run at a moment."""
        far = self.far_of(name)
        return self.tags_by(far, far.given, moment)

    def can_ever(self, name, moment):
        """Tell the rising list of the tags that a machine can run then or later, if no more letters are given to it."""
        # What can run at a moment can at any later one, so that the last one tells all.
        return self.can_run(name, LAST_MOMENT)

    def shows(self, name, tag, moment):
        """Tell a history to a moment behind which a machine runs a tag; NoWay where there is none."""
        far = self.far_of(name)
        return way_to(far.name, far.facts, self.cells_by(far), moment_of(far.heard), far.given, tag, moment)

    def sure(self, moment):
        """Tell the rising list of tuples (name, tag) of the machines that can run one tag alone at a moment."""
        told = [(name, self.can_run(name, moment)) for name in sorted(self.fars)]
        return [(name, tags[0]) for name, tags in told if len(tags) == 1]

    def log(self):
        """Tell a copy of the log."""
        return self.logged.copy()

    def copy(self):
        """Tell another house that stands alike and goes its own way."""
        other = House(self.charters[0][0], self.holders, span=self.span)
        other.tags = dict(self.tags)
        other.rows = {tag: row for tag, row in self.rows.items()}
        other.grades = {tag: grade for tag, grade in self.grades.items()}
        other.fars = {name: far.copy() for name, far in self.fars.items()}
        other.charters, other.lists = list(self.charters), list(self.lists)
        other.rolled = self.rolled
        other.last_number = self.last_number
        other.ends = dict(self.ends)
        other.logged = self.log()
        return other

    def far_of(self, name):
        """Tell what is kept of the machine of a name, which may be anything; NoMachine where there is none."""
        if not isinstance(name, str) or name not in self.fars:
            raise NoMachine(name)
        return self.fars[name]

    def last_charter(self):
        """Tell the last charter."""
        return self.charters[-1][0]

    def last_list(self):
        """Tell the last list; None where there is none."""
        return self.lists[-1][0] if self.lists else None

    def letters_due(self, far, moment):
        """Tell the letters for a machine, also such as are withheld."""
        due = charter_letters(self.charters, far.heard) + list_letters(self.lists, far.heard, moment)
        if not self.is_wanted(far.name, moment):
            return due
        tag = self.tags[self.rolled[0]]
        if has_whole(far.heard, tag):
            return due + [self.permit_for(far, moment)]
        return due + [items_letter(far.heard, tag, self.rows)]

    def permit_for(self, far, moment):
        """Tell the permit's letter for a machine: the last one where it still serves, else a new one."""
        name = self.rolled[0]
        if self.serves_still(far, name, moment):
            return far.permit
        permit = (self.last_number + 1, far.name, name, min(moment + self.span, LAST_MOMENT))
        return permit_letter(permit, [holder for holder in self.holders if holder in self.last_charter()[1]])

    def serves_still(self, far, name, moment):
        """Tell whether the permit given last to a machine is told again."""
        # Without a permit there is no charter by then either.
        if far.permit_charter != self.last_charter()[0]:
            return False
        number, machine, title, end = far.permit[1]
        return title == name and end >= moment and number > boot_of(far.heard)[1]

    def give(self, far, letter, given):
        """Give a letter to a machine, given then being all that was given to it."""
        far.given = given
        if letter[0] != "permit":
            return
        number, machine, title, end = letter[1]
        far.keep_permit(letter, self.last_charter()[0])
        self.last_number = max(self.last_number, number)
        self.ends[title] = max(self.ends.get(title, 0), end)

    def grades_about(self, far):
        """Tell two lists of grades: what those behind a machine can ever run, and what the one ahead of it can."""
        backs = [other for other in self.fars.values() if other.front == far.name]
        lows = [grade for other in backs for grade in self.grades_ever(other)]
        highs = [] if far.front is None else self.grades_ever(self.fars[far.front])
        return lows, highs

    def keeps_order(self, far, given, lows, highs):
        """Tell whether a machine, these letters given, can ever run nothing below the lows or above the highs."""
        if not lows and not highs:
            return True
        grades = self.grades_by(far, given)
        low, high = min(grades), max(grades)
        return all([low >= other for other in lows]) and all([high <= other for other in highs])

    def grades_ever(self, far):
        """Tell the grades that a machine can ever run."""
        return self.grades_by(far, far.given)

    def grades_by(self, far, given):
        """Tell the grades that a machine can ever run, these letters being given to it."""
        # What isn't on the shelf has no grade; it comes of strange reports alone, of which nothing is promised.
        return [self.grades.get(tag, 0) for tag in self.tags_by(far, given, LAST_MOMENT)] or [0]

    def tags_by(self, far, given, moment):
        """Tell the rising list of the tags that a machine can run at a moment, these letters being given to it."""
        search = searched(far.name, far.facts, self.cells_by(far), moment_of(far.heard), given, moment)
        return sorted(search.found)

    def cells_by(self, far):
        """Tell the cells of a machine, by the report heard last."""
        charters = {charter[0]: charter for charter, marks in self.charters}
        lists = {told[0]: told for told, marks in self.lists}
        return told_cells(far.heard, charters, lists, self.rows)


def is_first_report(thing, name, key):
    """Tell of anything whether it is a report of a machine, rightly marked, with nothing on trial."""
    if not is_report(thing) or thing[1][0] != name or not is_marked(thing, key):
        return False
    return boot_of(thing)[2] is None
