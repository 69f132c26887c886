"""Rows of texts, each looked at alone: what it is written of, or None where it is none of its kind."""

from farbuilds.builds import is_file, is_tag
from farbuilds.charters import MOST_GRADE, MOST_HOLDERS, MOST_NUMBER, is_holder
from farbuilds.rules import MOST_WITHIN, is_rule
from farbuilds.steps import is_step
from farbuilds.words import LAST_MOMENT, is_between

FIGURES = "0123456789"
MOST_FIGURES = 60
MOST_WRITTEN = 10 ** 60 - 1


def number_in(text, low, high):
    """Tell the number that a text is written of, where it is from low to high."""
    if not 1 <= len(text) <= MOST_FIGURES or not all([sign in FIGURES for sign in text]):
        return None
    if len(text) > 1 and text.startswith("0"):
        return None
    number = int(text)
    return number if low <= number <= high else None


def any_number_in(text):
    """Tell the number that a text is written of, whatever it is."""
    return number_in(text, 0, MOST_WRITTEN)


def worth_in(text):
    """Tell the number that a text is written of, or else the text itself."""
    number = any_number_in(text)
    return text if number is None else number


def file_in(row):
    """Tell the file of a row."""
    word, *rest = row.split(" ")
    thing = (rest[0], tuple(rest[1:])) if rest else None
    return thing if word == "file" and is_file(thing) else None


def step_in(row):
    """Tell the step of a row."""
    word, *rest = row.split(" ")
    step = (word, tuple(rest)) if word == "new" else (word,) + tuple([any_number_in(part) for part in rest])
    return step if is_step(step) else None


def rule_in(row):
    """Tell the rule of a row."""
    return rule_of(row.split(" "))


def rule_of(words):
    """Tell the rule that words are written of, all of them."""
    rule, end = rule_at(words, 0, MOST_WITHIN)
    return rule if end == len(words) and is_rule(rule) else None


def rule_at(words, at, within):
    """Tell the rule that begins at a place, with at most so many within one another, and where it ends.

    Where there is none, None and a place beyond all; a rule by its words may still be wrong by its bounds.
    """
    if within == 0 or at >= len(words):
        return None, len(words) + 1
    if words[at] == "not":
        rule, end = rule_at(words, at + 1, within - 1)
        return ("not", rule), end
    if words[at] in ("all", "any"):
        return parts_at(words, at, within)
    return (words[at],) + tuple([worth_in(word) for word in words[at + 1:at + 3]]), at + 3


def parts_at(words, at, within):
    """Tell likewise the all or any that begins at a place."""
    parts = [words[at]]
    end = at + 1
    while end < len(words) and words[end] != "end":
        rule, end = rule_at(words, end, within - 1)
        parts.append(rule)
    return tuple(parts), end + 1


def holder_in(row):
    """Tell the holder of a row."""
    word, *rest = row.split(" ")
    if word != "holder" or len(rest) != 2:
        return None
    holder = (rest[0], any_number_in(rest[1]))
    return holder if is_holder(holder) else None


def entry_in(row):
    """Tell the entry of a row."""
    word, *rest = row.split(" ")
    if word != "entry" or len(rest) < 5:
        return None
    tag = (rest[0], any_number_in(rest[1]), any_number_in(rest[2]))
    grade, rule = any_number_in(rest[3]), rule_of(rest[4:])
    if not is_tag(tag) or not is_between(grade, 0, MOST_GRADE) or rule is None:
        return None
    return tag + (grade, rule)


def charter_in(row):
    """Tell a tuple of the number and the needs of a charter's first row."""
    word, *rest = row.split(" ")
    if word != "charter" or len(rest) != 4:
        return None
    number = number_in(rest[0], 1, MOST_NUMBER)
    needs = tuple([number_in(part, 1, MOST_HOLDERS) for part in rest[1:]])
    return None if number is None or None in needs else (number, needs)


def list_in(row):
    """Tell a tuple of the number and until of a list's first row."""
    word, *rest = row.split(" ")
    if word != "list" or len(rest) != 2:
        return None
    number, until = number_in(rest[0], 1, MOST_NUMBER), number_in(rest[1], 0, LAST_MOMENT)
    return None if number is None or until is None else (number, until)
