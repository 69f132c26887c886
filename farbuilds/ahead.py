"""Which machines come to a build, in an order in which they can, and why the others don't."""

from farbuilds.comings import first_come, waiting_for, why_not, whys_left


def ahead(machines, gates, grade):
    """Tell a tuple (names, whys) of those that come to a build of a grade, and why each one left that may doesn't."""
    come = first_come(machines)
    names = []
    # Who can come can still come behind others, so that any order comes to the same end.
    more = next_come(machines, gates, grade, come)
    while more is not None:
        come[more] = True
        names.append(more)
        more = next_come(machines, gates, grade, come)
    return names, whys_left(machines, gates, grade, come)


def next_come(machines, gates, grade, come):
    """Tell the name of one that can come next; None where none can."""
    for machine in waiting_for(machines, come):
        if why_not(machine, machines, gates, grade, come) is None:
            return machine[0]
    return None
