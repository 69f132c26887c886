"""Histories of a machine, played on copies of it, and a going through all of them."""

from farbuilds.cells import standing


def is_history(deeds, since, given, last):
    """Whether deeds are a history from a moment to a last one, by letters given at their moments."""
    if type(deeds) is not list:
        return False
    moment = since
    for deed in deeds:
        kind, now, *cut = deed if deed[0] != "take" else (deed[0],) + deed[2:]
        if not moment <= now <= last or kind not in ("start", "well", "off", "take"):
            return False
        if kind != "off" and not (len(cut) == 2 and (cut[0] is None or type(cut[0]) is int and cut[0] >= 0) and type(cut[1]) is bool):
            return False
        if kind == "take" and not any(letter == deed[1] and moment <= now for letter, moment in given):
            return False
        moment = now
    return True


def played(machine, deeds):
    """A copy of a machine behind deeds."""
    machine = machine.copy()
    for deed in deeds:
        if deed[0] == "start":
            machine.start(deed[1], writes=deed[2], torn=deed[3])
        elif deed[0] == "off":
            machine.off()
        elif machine.is_on() and deed[0] == "well":
            machine.well(writes=deed[2], torn=deed[3])
        elif machine.is_on():
            machine.take(deed[1], deed[2], writes=deed[3], torn=deed[4])
    return machine


def moments_of(machine, since, given, last):
    """The moments at which something else can come of a deed than a moment ahead."""
    found = {since}
    for letter, moment in given:
        found.add(moment)
        if letter[0] == "permit":
            found.add(letter[1][3] + 1)
        if letter[0] == "list":
            found.add(letter[1][1] + 1)
    if machine.boot()[2] is not None:
        found.add(machine.boot()[2] + 1)
    return sorted(moment for moment in found if since <= moment <= last)


def all_that_can_run(machine, since, given, last):
    """The tags that run behind any history, by a going through all ways to be at all moments."""
    moments = moments_of(machine, since, given, last)
    todo, seen, found = [], set(), set()

    def put(other, nth):
        cells = other.cells()
        place = (standing(cells)[1:], cells[2], other.is_on(), nth)
        if place not in seen:
            seen.add(place)
            todo.append((other, nth))

    if moments:
        put(machine, 0)
    while todo:
        machine, nth = todo.pop()
        now = moments[nth]
        if machine.is_on():
            found.add(machine.runs())
        if nth + 1 < len(moments):
            put(machine, nth + 1)
        deeds = [("off", now)] + cut_deeds("start", now, 1) + cut_deeds("well", now, 1)
        for letter, moment in given:
            if moment <= now:
                many = letter[1][1] + 1 if letter[0] == "items" else 1
                deeds += [("take", letter) + deed[1:] for deed in cut_deeds("take", now, many)]
        for deed in deeds:
            put(played(machine, [deed]), nth)
    return found


def cut_deeds(kind, now, many):
    """A deed of at most so many writes, whole, cut and torn at each."""
    return [(kind, now, None, False)] + [(kind, now, writes, torn) for writes in range(many) for torn in (False, True)]
