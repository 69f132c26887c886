"""What a house keeps of each of its machines, far as they are: what was heard of it, and what was given to it."""

from farbuilds.reports import moment_of, well_tag


class Far:
    """A machine as a house knows it; front is the name of the one that it stands behind, or None.

    It keeps the report heard last, since when each report told the tag that
    runs well by it, letters with the moments since which they were given, and
    the permit given last, with the number of the last charter by then.
    """

    def __init__(self, name, key, facts, ring, front, heard):
        self.name = name
        self.key = key
        self.facts = dict(facts)
        self.ring = ring
        self.front = front
        self.heard = heard
        self.well_since = moment_of(heard)
        self.given = []
        self.permit = None
        self.permit_charter = None

    def is_news(self, told):
        """Tell whether a report is later than the one heard last."""
        return told[1][1:3] > self.heard[1][1:3]

    def keep_report(self, told, moment):
        """Keep a report that was heard at a moment."""
        if well_tag(told) != well_tag(self.heard):
            self.well_since = moment
        self.heard = told

    def given_with(self, letter, moment):
        """Tell the letters given with one more, which counts since it was given first."""
        if letter in [told for told, since in self.given]:
            return list(self.given)
        return self.given + [(letter, moment)]

    def keep_permit(self, letter, charter):
        """Keep a permit as the last one given, with the number of the last charter."""
        if letter != self.permit:
            self.permit = letter
            self.permit_charter = charter

    def copy(self):
        """Tell another one that stands alike."""
        other = Far(self.name, self.key, self.facts, self.ring, self.front, self.heard)
        other.well_since = self.well_since
        other.given = list(self.given)
        other.permit = self.permit
        other.permit_charter = self.permit_charter
        return other
