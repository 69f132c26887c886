"""A search through what a machine can come to run, by the letters that were given to it.

It goes from stand to stand: from one way of the machine to be, on and with no
trial, to the next. A stand that is as good as another one, and as early, has
all ways of that one, so that the other one is left aside. What is cut needs
few looks: a mark that is cut or torn leaves all as it was, and behind any cut
without a trial a start writes nothing; so only rooms that were filled in part
count, and of these only those that a letter goes on from.
"""

from farbuilds.cells import MOST_TRIES, is_whole, standing
from farbuilds.charters import lets_permit
from farbuilds.deeds import with_tag
from farbuilds.laws import Laws
from farbuilds.letters import filled, items_word
from farbuilds.rules import lets

NO_TRIAL = (0, 0, None, 0, ())


class Stand:
    """A way to be, from a moment on: the law, the rooms' contents, the last permit's number and what failed.

    It is come to by deeds, behind those of another stand, or None.
    """

    def __init__(self, law, ran, other, moment, number, failed, before, deeds):
        self.law = law
        self.ran = ran
        self.other = other
        self.moment = moment
        self.number = number
        self.failed = failed
        self.before = before
        self.deeds = deeds
        self.live = True


class Search:
    """A search through the stands of a machine to a last moment; given are tuples (letter, moment)."""

    def __init__(self, name, facts, cells, given, last):
        turn, charter, listing, boot = standing(cells)
        self.facts = facts
        self.last = last
        self.laws = Laws(charter, listing, given)
        self.fillers = [pair for pair in given if pair[0][0] == "items"]
        self.permits = [pair for pair in given if pair[0][0] == "permit" and pair[0][1][1] == name]
        self.begun_ats = {(letter[1], letter[3]): True for letter, moment in self.fillers if letter[3] > 0}
        # Contents of rooms have places, for short keys; the first one stands for all that serve for nothing.
        self.contents = [(None, ())]
        self.content_places = {(None, ()): 0}
        self.fills = {}
        self.permit_laws = {}
        self.tags_let = {}
        self.stands = {}
        self.todo = {}
        self.found = {}

    def go_through(self, cells, moment):
        """Search from cells on, on at a moment."""
        room, number, end, tries, failed = standing(cells)[3]
        ran, other = self.content_place(cells[2][room]), self.content_place(cells[2][1 - room])
        first = Stand((0, 0), ran, other, moment, number, failed, None, [])
        if end is None:
            self.put(first)
        else:
            self.try_out(first, end, tries)
        while self.todo:
            stands = self.todo.pop(min(list(self.todo)))
            for stand in stands:
                if stand.live:
                    self.go_on(stand)

    def content_place(self, content):
        """Tell the place of a room's tag and items among contents."""
        if content not in self.content_places:
            self.content_places[content] = len(self.contents)
            self.contents.append(content)
        return self.content_places[content]

    def tell(self, content, stand, deeds):
        """Keep that a content can run behind a stand and deeds."""
        tag = self.contents[content][0]
        if tag is not None and tag not in self.found:
            self.found[tag] = (stand, deeds)

    def put(self, stand):
        """Put a stand among those to go on from, unless one is as good."""
        if stand.moment > self.last:
            return
        self.tell(stand.ran, stand, [])
        place = (stand.ran, stand.other)
        rivals = self.stands.get(place, [])
        if any([self.is_as_good(rival, stand) for rival in rivals]):
            return
        for rival in rivals:
            rival.live = not self.is_as_good(stand, rival)
        self.stands[place] = [rival for rival in rivals if rival.live] + [stand]
        self.todo.setdefault(stand.moment, []).append(stand)

    def is_as_good(self, one, other):
        """Tell whether from one stand all can be come to that can from another one of the same contents."""
        if one.moment > other.moment or one.number > other.number:
            return False
        if not all([tag in other.failed for tag in one.failed]):
            return False
        return self.laws.leads(one.law, other.law, other.moment)

    def go_on(self, stand):
        """Put the stands that come next by items and permits."""
        for nth, (letter, given) in enumerate(self.fillers):
            moment = max(stand.moment, given)
            for content, writes in self.fills_by(nth, stand.ran, stand.other):
                deeds = [("take", letter, moment, writes, False)]
                if writes is not None:
                    deeds.append(("start", moment, None, False))
                self.put(Stand(stand.law, stand.ran, content, moment, stand.number, stand.failed, stand, deeds))
        for nth, (letter, given) in enumerate(self.permits):
            if letter[1][0] > stand.number:
                self.try_permit(nth, stand)

    def fills_by(self, nth, ran, other):
        """Tell what a letter of items can leave in the other room, each behind so many writes; None is all."""
        place = (nth, ran, other)
        if place not in self.fills:
            letter, given = self.fillers[nth]
            rooms = (self.contents[ran], self.contents[other])
            taken = items_word(NO_TRIAL, rooms, letter) == "taken"
            self.fills[place] = self.parts_filled(letter, rooms) if taken else []
        return self.fills[place]

    def parts_filled(self, letter, rooms):
        """Tell the contents that serve for something, of those that a letter of items leaves, cut or not."""
        kind, tag, base, at, steps = letter
        whole = filled(rooms[0][1], rooms[1][1], letter)
        # At 0 the tag is one write more.
        ahead = 1 if at == 0 else 0
        found = []
        for many in range(at, len(whole) + 1):
            if (tag, many) in self.begun_ats or is_whole(tag, whole[:many]):
                writes = None if many == len(whole) else many - at + ahead
                found.append((self.content_place((tag, whole[:many])), writes))
        return found

    def try_permit(self, nth, stand):
        """Put what can come of a permit, by each law under which it is taken."""
        letter, given = self.permits[nth]
        number, machine, title, end = letter[1]
        tag, row = self.contents[stand.other]
        if tag is None or tag[0] != title or tag in stand.failed or tag == self.contents[stand.ran][0]:
            return
        if not is_whole(tag, row):
            return
        for law, since, letters in self.laws_for(nth, stand.law):
            moment = max(stand.moment, since, given)
            if moment > min(end, self.laws.until_of(law[1]), self.last) or self.tag_let(law[1], title) != tag:
                continue
            deeds = [("take", each, moment, None, False) for each in letters + (letter,)]
            trial = Stand(law, stand.ran, stand.other, moment, number, stand.failed, stand, deeds)
            self.try_out(trial, end, MOST_TRIES)

    def laws_for(self, nth, law):
        """Tell the laws to come to from one by which a permit is marked by enough, each with its way."""
        place = (nth, law)
        if place not in self.permit_laws:
            kind, permit, marks = self.permits[nth][0]
            ways = self.laws.ways_from(law)
            charters = {charter: True for charter, listing in ways}
            enough = {charter: lets_permit(self.laws.charters[charter], permit, marks) for charter in charters}
            self.permit_laws[place] = [(other, way[0], way[1]) for other, way in ways.items() if enough[other[0]]]
        return self.permit_laws[place]

    def tag_let(self, listing, title):
        """Tell the tag of the entry of a name in the list at a place, where its rule lets the facts; else None."""
        if listing not in self.tags_let:
            told = self.laws.lists[listing]
            entries = () if told is None else told[2]
            self.tags_let[listing] = {entry[0]: entry[:3] for entry in entries if lets(entry[4], self.facts)}
        return self.tags_let[listing].get(title)

    def try_out(self, trial, end, tries):
        """Put what can come of a trial, from a stand that has it, with so many tries and its end."""
        now = trial.moment
        start = ("start", now, None, False)
        if tries < MOST_TRIES or now <= end:
            begun = [start] if tries == MOST_TRIES else []
            self.tell(trial.other, trial, begun)
            deeds = begun + [("well", now, None, False)]
            self.put(Stand(trial.law, trial.other, trial.ran, now, trial.number, (), trial, deeds))
        if tries == 0 or now <= end:
            failed = with_tag(trial.failed, self.contents[trial.other][0])
            deeds = [start] * (tries + 1)
            self.put(Stand(trial.law, trial.ran, trial.other, now, trial.number, failed, trial, deeds))
        if tries > 0:
            later = max(now, end + 1)
            deeds = [("start", later, None, False)]
            self.put(Stand(trial.law, trial.ran, trial.other, later, trial.number, trial.failed, trial, deeds))

    def history(self, tag):
        """Tell the deeds behind which a tag that was found runs."""
        stand, deeds = self.found[tag]
        while stand is not None:
            deeds = stand.deeds + deeds
            stand = stand.before
        return list(deeds)
