"""Machines that come to a build, one behind another: what bars one of them.

Machines are a tuple of tuples (name, ring, may, has, grade, behind).
"""


def first_come(machines):
    """Tell a dict of the names of those that have the build, each to True."""
    return {machine[0]: True for machine in machines if machine[3]}


def waiting_for(machines, come):
    """Tell the list of those that may come and haven't."""
    return [machine for machine in machines if machine[2] and machine[0] not in come]


def why_not(machine, machines, gates, grade, come):
    """Tell why a machine that may can't come, those in come having come; None where it can."""
    name, ring, may, has, own, behind = machine
    lesser = [other[0] for other in machines if other[1] < ring and other[0] in come]
    if 0 < ring <= len(gates) and len(lesser) < gates[ring - 1][0]:
        return "gate", len(lesser)
    fronts = [other[0] for other in machines if other[0] == behind and other[4] < grade]
    if fronts and behind not in come:
        return "behind", behind
    backs = [other[0] for other in machines if other[5] == name and other[4] > grade and other[0] not in come]
    return ("before", min(backs)) if backs else None


def whys_left(machines, gates, grade, come):
    """Tell the list, by rising names, of (name, why) of each one left that may; why is None where one can come."""
    left = waiting_for(machines, come)
    return sorted([(machine[0], why_not(machine, machines, gates, grade, come)) for machine in left])
