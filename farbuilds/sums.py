"""Sums of things: numbers from 0 to 996, unlike things may have one sum."""

from farbuilds.words import is_number

MODULUS = 997


def has_sum(thing):
    """Tell of anything whether it is made of None, whole numbers, texts and tuples of these."""
    waiting = [thing]
    while waiting:
        part = waiting.pop()
        if isinstance(part, tuple):
            waiting.extend(part)
        elif part is not None and not isinstance(part, str) and not is_number(part):
            return False
    return True


def sum_of(thing):
    """Tell the sum of a thing made of None, whole numbers, texts and tuples of these."""
    # Tuples wait in a list, not in calls: nothing bounds how many stand within one another.
    waiting = [(thing, False)]
    sums = []
    while waiting:
        part, parts_summed = waiting.pop()
        if not isinstance(part, tuple):
            sums.append(plain_sum(part))
        elif parts_summed:
            first = len(sums) - len(part)
            sums[first:] = [tuple_sum(sums[first:])]
        else:
            waiting.append((part, True))
            waiting.extend([(inner, False) for inner in reversed(part)])
    return sums[0]


def plain_sum(thing):
    """Tell the sum of None, a whole number or a text."""
    if thing is None:
        return 5
    if isinstance(thing, str):
        return text_sum(thing)
    return (17 * thing + 3) % MODULUS


def text_sum(text):
    """Tell the sum of a text."""
    total = 7
    for sign in text:
        total = (31 * total + ord(sign)) % MODULUS
    return total


def tuple_sum(sums):
    """Tell the sum of a tuple whose parts have these sums."""
    total = 11
    for part in sums:
        total = (101 * total + part + 1) % MODULUS
    return total
