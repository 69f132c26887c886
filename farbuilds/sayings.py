"""Rows that are said to a desk, by their words: what is one of them, and the values in it."""

from farbuilds.charters import MOST_HOLDERS
from farbuilds.readings import number_in, worth_in
from farbuilds.rules import MOST_WORTH
from farbuilds.words import is_between, is_word

MOST_RING = 3
MOST_FACTS = 16
NO_ONE = "-"
WITH_TEXT = ("house", "build", "charter", "list")
# No number has more than nine figures, so that the last moment can't be said.
BOUNDS = {
    "span": (1, 1000),
    "grade": (0, 99),
    "moment": (0, 999999999),
    "key": (1, 996),
    "ring": (0, 3),
    "number": (0, 999999999),
}
# What each row has behind its first word; what may be of several words stands last.
FORMS = {
    "house": ("span", "names"),
    "build": ("word", "grade"),
    "charter": (),
    "list": (),
    "roll": ("word", "gates"),
    "stop": (),
    "at": ("moment",),
    "machine": ("word", "key", "ring", "word or none", "word", "facts"),
    "letters": ("word",),
    "take": ("number", "writes"),
    "start": ("word", "writes"),
    "well": ("word", "writes"),
    "off": ("word",),
    "report": ("word",),
    "hear": ("number",),
    "runs": ("word",),
    "can": ("word",),
    "ever": ("word",),
    "sure": (),
    "end": ("word",),
}
OF_SEVERAL = ("names", "gates", "facts", "writes")


def said(row):
    """Tell of anything a tuple (first word, list of values, text behind the line feed); None where it is no row."""
    if not isinstance(row, str):
        return None
    first, line_feed, text = row.partition("\n")
    word, *rest = first.split(" ")
    if word not in FORMS or (line_feed == "\n") != (word in WITH_TEXT):
        return None
    values = values_of(FORMS[word], rest)
    return None if values is None else (word, values, text)


def values_of(form, words):
    """Tell the list of values that words are, by a form; None where they aren't."""
    last = form[-1] if form and form[-1] in OF_SEVERAL else None
    single = form if last is None else form[:-1]
    if len(words) < len(single) or last is None and len(words) > len(single):
        return None
    values = [value_of(kind, word) for kind, word in zip(single, words)]
    if last is not None:
        values.append(several_of(last, words[len(single):]))
    return None if None in values else values


def value_of(kind, word):
    """Tell the value that a word is, by a kind; None where it isn't."""
    if kind in BOUNDS:
        low, high = BOUNDS[kind]
        return number_in(word, low, high)
    return word if is_word(word) or kind == "word or none" and word == NO_ONE else None


def several_of(kind, words):
    """Tell the tuple that words are, by a kind; None where they aren't."""
    if kind == "names":
        return names_of(words)
    if kind == "gates":
        return gates_of(words)
    return facts_of(words) if kind == "facts" else writes_of(words)


def names_of(words):
    """Tell the tuple of one to six unlike names."""
    if not 1 <= len(words) <= MOST_HOLDERS or len(set(words)) < len(words):
        return None
    return tuple(words) if all([is_word(word) for word in words]) else None


def gates_of(words):
    """Tell the tuple of gates, each of three numbers between commas."""
    gates = [tuple([number_in(part, 0, MOST_WORTH) for part in word.split(",")]) for word in words]
    if len(gates) > MOST_RING or not all([len(gate) == 3 and None not in gate for gate in gates]):
        return None
    return tuple(gates)


def facts_of(words):
    """Tell the tuple of facts, each (name, worth), of unlike names."""
    names, worths = words[0::2], [worth_in(word) for word in words[1::2]]
    if len(names) != len(worths) or len(names) > MOST_FACTS or len(set(names)) < len(names):
        return None
    if not all([is_word(name) for name in names]) or not all([is_worth(worth) for worth in worths]):
        return None
    return tuple(zip(names, worths))


def is_worth(worth):
    """Tell whether a fact may be worth this."""
    return is_word(worth) or is_between(worth, 0, MOST_WORTH)


def writes_of(words):
    """Tell the tuple of how many writes are done, or of none where that isn't told."""
    writes = tuple([value_of("number", word) for word in words])
    return writes if len(writes) <= 1 and None not in writes else None
