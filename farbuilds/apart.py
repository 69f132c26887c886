"""Rows of rules, each said or denied: taken apart, split, and what they leave of a fact.

A row is a list of tuples (rule, said), said a truth: whether the rule is said or denied.
"""

from farbuilds.rules import MOST_WORTH, fits
from farbuilds.words import is_number


def taken_apart(row):
    """Tell a row without not, said all and denied any: what stands in these has their places."""
    found = []
    for rule, said in row:
        if rule[0] == "not":
            found.extend(taken_apart([(rule[1], not said)]))
        elif rule[0] == ("all" if said else "any"):
            found.extend(taken_apart([(part, said) for part in rule[1:]]))
        else:
            found.append((rule, said))
    return found


def split_rows(row):
    """Tell the rows, taken apart, one for each part of the first said any or denied all; None where there is none."""
    for at, (rule, said) in enumerate(row):
        if rule[0] in ("all", "any"):
            return [taken_apart(row[:at] + [(part, said)] + row[at + 1:]) for part in rule[1:]]
    return None


def facts_in(row):
    """Tell the facts of which the plain rules of a row taken apart speak, each once."""
    return list({rule[1]: True for rule, said in row if rule[0] not in ("all", "any")})


def worths_left(row, fact):
    """Tell some of what the plain rules of a row leave of a fact, none only where nothing is left; None is no fact."""
    about = [(rule, said) for rule, said in row if rule[0] not in ("all", "any") and rule[1] == fact]
    bounds = [rule[2] for rule, said in about]
    return [worth for worth in tried_worths(bounds) if all([fits(rule, worth) == said for rule, said in about])]


def tried_worths(bounds):
    """Tell enough worths that where rules of these bounds leave any, they leave one of these."""
    # The least number that is left is 0, a bound, or one more; a word that no rule names fits where no fact does.
    return [None, 0] + bounds + [bound + 1 for bound in bounds if is_number(bound) and bound < MOST_WORTH]
