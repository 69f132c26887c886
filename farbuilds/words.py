"""Whole numbers, words and items: what all other parts are made of."""

LETTERS = "abcdefghijklmnopqrstuvwxyz"
MOST_SIGNS = 8
MOST_ITEMS = 60
LAST_MOMENT = 10 ** 9


def is_number(thing):
    """Tell of anything whether it is a whole number."""
    return isinstance(thing, int) and not isinstance(thing, bool)


def is_between(thing, low, high):
    """Tell of anything whether it is a whole number from low to high."""
    return is_number(thing) and low <= thing <= high


def is_moment(thing):
    """Tell of anything whether it is a moment."""
    return is_between(thing, 0, LAST_MOMENT)


def is_word(thing):
    """Tell of anything whether it is a word."""
    if not isinstance(thing, str) or not 1 <= len(thing) <= MOST_SIGNS:
        return False
    return all([sign in LETTERS for sign in thing])


def is_item(thing):
    """Tell of anything whether it is an item: a word, or `=` and a word."""
    if not isinstance(thing, str):
        return False
    return is_word(thing.removeprefix("="))


def are_items(thing):
    """Tell of anything whether it is a tuple of items, none too."""
    return isinstance(thing, tuple) and all([is_item(part) for part in thing])


def are_rising(names):
    """Tell whether each name is greater than the one ahead of it."""
    return all([names[at] < names[at + 1] for at in range(len(names) - 1)])
