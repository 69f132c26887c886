"""Steps, by which a row is written from an old row and what is written already."""

from farbuilds.errors import NoSteps
from farbuilds.words import MOST_ITEMS, are_items, is_number

COPY_COST = 3


def are_steps(thing):
    """Tell of anything whether it is steps by form."""
    return isinstance(thing, tuple) and all([is_step(part) for part in thing])


def is_step(thing):
    """Tell of anything whether it is one step by form."""
    if not isinstance(thing, tuple) or not thing:
        return False
    if thing[0] == "new":
        return len(thing) == 2 and are_items(thing[1]) and len(thing[1]) > 0
    return thing[0] in ("old", "own") and len(thing) == 3 and is_span(thing[1], thing[2])


def is_span(at, many):
    """Tell of anything whether it is a place and how many items to copy from there."""
    return is_number(at) and at >= 0 and is_number(many) and many >= 1


def written(old, begun, steps):
    """Tell all items behind steps, those begun ahead too; NoSteps of what is none or can't be."""
    if not isinstance(steps, tuple):
        raise NoSteps(-1)
    items = list(begun)
    for nth, step in enumerate(steps):
        if not is_step(step) or not can_write(old, items, step):
            raise NoSteps(nth)
        write(old, items, step)
    return tuple(items)


def can_write(old, items, step):
    """Tell whether a step can be done behind these items."""
    if len(items) + length_of(step) > MOST_ITEMS:
        return False
    if step[0] == "old":
        return step[1] + step[2] <= len(old)
    return step[0] == "new" or step[1] < len(items)


def write(old, items, step):
    """Put what a step writes behind the items."""
    if step[0] == "new":
        items.extend(step[1])
    elif step[0] == "old":
        items.extend(old[step[1]:step[1] + step[2]])
    else:
        # One by one, as an own step may run on into what it writes itself.
        for place in range(step[1], step[1] + step[2]):
            items.append(items[place])


def length_of(step):
    """Tell how many items a step writes."""
    return len(step[1]) if step[0] == "new" else step[2]


def cost_of(steps):
    """Tell what steps cost; NoSteps of what is none by form."""
    if not isinstance(steps, tuple):
        raise NoSteps(-1)
    total = 0
    for nth, step in enumerate(steps):
        if not is_step(step):
            raise NoSteps(nth)
        total += new_cost(len(step[1])) if step[0] == "new" else COPY_COST
    return total


def new_cost(many):
    """Tell what a new step of so many items costs."""
    return 1 + many
