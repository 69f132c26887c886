"""Rules over facts: what is one, and whether it lets facts."""

from farbuilds.words import is_between, is_number, is_word

MOST_WORTH = 999
MOST_PARTS = 4
MOST_WITHIN = 4
MOST_PLAIN = 8


def is_rule(thing):
    """Tell of anything whether it is a rule."""
    return is_formed(thing, MOST_WITHIN) and plain_count(thing) <= MOST_PLAIN


def is_formed(thing, within):
    """Tell of anything whether it is a rule, at most so many within one another, however many plain ones it has."""
    if within == 0 or not isinstance(thing, tuple) or not thing:
        return False
    parts = thing[1:]
    if thing[0] in ("all", "any"):
        return len(parts) <= MOST_PARTS and all([is_formed(part, within - 1) for part in parts])
    if thing[0] == "not":
        return len(parts) == 1 and is_formed(parts[0], within - 1)
    return is_plain(thing)


def is_plain(thing):
    """Tell of a tuple whether it is an is, least or most."""
    if len(thing) != 3 or not is_word(thing[1]):
        return False
    if thing[0] == "is" and is_word(thing[2]):
        return True
    return thing[0] in ("is", "least", "most") and is_between(thing[2], 0, MOST_WORTH)


def plain_count(rule):
    """Tell how many is, least and most, and all and any of none, are in a rule."""
    if rule[0] == "not":
        return plain_count(rule[1])
    if rule[0] in ("all", "any") and len(rule) > 1:
        return sum([plain_count(part) for part in rule[1:]])
    return 1


def lets(rule, facts):
    """Tell whether a rule lets facts."""
    if rule[0] == "not":
        return not lets(rule[1], facts)
    if rule[0] == "all":
        return all([lets(part, facts) for part in rule[1:]])
    if rule[0] == "any":
        return any([lets(part, facts) for part in rule[1:]])
    return fits(rule, facts.get(rule[1]))


def fits(rule, worth):
    """Tell whether an is, least or most lets its fact have this worth; None is that the fact isn't there."""
    kind, fact, bound = rule
    if kind == "is":
        return worth == bound
    if not is_number(worth):
        return False
    return worth >= bound if kind == "least" else worth <= bound
