"""A look at answers of which machines come to a build."""

from farbuilds.comings import first_come, waiting_for, why_not, whys_left


def shows_ahead(machines, gates, grade, told):
    """Tell of anything whether it is such an answer as ahead tells."""
    if not isinstance(told, tuple) or len(told) != 2:
        return False
    names, whys = told
    if not isinstance(names, list) or not isinstance(whys, list):
        return False
    come = come_by(machines, gates, grade, names)
    return come is not None and are_whys(whys, whys_left(machines, gates, grade, come))


def come_by(machines, gates, grade, names):
    """Tell a dict of all that have come behind these names, which may be anything; None where one of them can't."""
    come = first_come(machines)
    for name in names:
        called = [machine for machine in waiting_for(machines, come) if machine[0] == name]
        if not called or why_not(called[0], machines, gates, grade, come) is not None:
            return None
        come[name] = True
    return come


def are_whys(thing, whys):
    """Tell of a list whether it is these whys, and none of them that one can come."""
    if thing != whys or None in [why for name, why in whys]:
        return False
    # A truth would pass for how many have come.
    return not any([isinstance(why[1], bool) for name, why in thing])
