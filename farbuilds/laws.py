"""The charters and lists that a machine can come to have by the letters that were given to it.

A law is a tuple of two places: that of a charter among charters, that of a
list among lists; (0, 0) is what the machine has at first. A way from one law
to another is a tuple (since, letters): letters that lead there, taken at one
moment, and the moment from which on all of them were given. The last list
on a way is the only one, as a list needs none of those ahead of it.
"""

from farbuilds.charters import lets_charter, lets_list


class Laws:
    """Charters and lists to come to, by tuples (letter, moment since which it was given)."""

    def __init__(self, charter, listing, given):
        self.charters = [charter]
        self.lists = [listing]
        self.by_charter = []
        self.by_list = []
        self.climbs = {}
        self.ways = {}
        for letter, moment in given:
            if letter[0] == "charter":
                self.by_charter.append((place_in(self.charters, letter[1]), letter, moment))
            elif letter[0] == "list":
                self.by_list.append((place_in(self.lists, letter[1]), letter, moment))

    def number_of(self, listing):
        """Tell the number of the list at a place; 0 of none."""
        told = self.lists[listing]
        return 0 if told is None else told[0]

    def until_of(self, listing):
        """Tell to which moment the list at a place holds; -1 of none."""
        told = self.lists[listing]
        return -1 if told is None else told[1]

    def climbs_from(self, charter):
        """Tell a dict of the charters that can be come to from one, itself too, each to its way."""
        if charter in self.climbs:
            return self.climbs[charter]
        found = {charter: (0, ())}
        todo = [charter]
        while todo:
            place = todo.pop()
            since, letters = found[place]
            for other, letter, moment in self.by_charter:
                later = max(since, moment)
                if other in found and found[other][0] <= later:
                    continue
                if lets_charter(self.charters[place], letter[1], letter[2]):
                    found[other] = (later, letters + (letter,))
                    todo.append(other)
        self.climbs[charter] = found
        return found

    def ways_from(self, law):
        """Tell a dict of the laws that can be come to from one, itself too, each to its way."""
        if law in self.ways:
            return self.ways[law]
        charter, listing = law
        climbs = self.climbs_from(charter)
        found = {(other, listing): climbs[other] for other in climbs}
        for other, letter, moment in self.by_list:
            if letter[1][0] > self.number_of(listing):
                self.put_ways(found, climbs, other, letter, moment)
        self.ways[law] = found
        return found

    def put_ways(self, found, climbs, listing, letter, moment):
        """Put among the ways found those by climbs to a charter that lets a list, and from there on."""
        for middle, (since, letters) in climbs.items():
            if not lets_list(self.charters[middle], letter[1], letter[2]):
                continue
            for charter, (later, more) in self.climbs_from(middle).items():
                way = (max(since, moment, later), letters + (letter,) + more)
                law = (charter, listing)
                if law not in found or way[0] < found[law][0]:
                    found[law] = way

    def leads(self, one, other, moment):
        """Tell whether who has the one law can do by then what who has the other one can, from that moment on."""
        if one == other:
            return True
        ways = self.ways_from(one)
        if self.is_open_way(ways, one, other, moment):
            return True
        # A list that is past serves for nothing but to bar those of lesser numbers.
        lasting = (other[0], one[1])
        if self.until_of(other[1]) >= moment or self.number_of(one[1]) > self.number_of(other[1]):
            return False
        return self.is_open_way(ways, one, lasting, moment)

    def is_open_way(self, ways, one, other, moment):
        """Tell whether among the ways from one law there is one to another law that can be gone at a moment."""
        if other not in ways or ways[other][0] > moment:
            return False
        return one[1] == other[1] or moment <= self.until_of(other[1])


def place_in(things, thing):
    """Tell the place of a thing in a list, to whose end it comes where it isn't in it."""
    if thing not in things:
        things.append(thing)
    return things.index(thing)
