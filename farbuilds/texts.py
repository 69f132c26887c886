"""Builds, steps, rules, charters and lists as texts, and read from texts."""

from farbuilds.builds import is_build
from farbuilds.charters import is_charter, is_list
from farbuilds.errors import NoText
from farbuilds.readings import charter_in, entry_in, file_in, holder_in, list_in, rule_in, step_in


def show_build(build):
    """Tell the text of a build."""
    return "\n".join([" ".join(["file", name] + list(words)) for name, words in build])


def show_steps(steps):
    """Tell the text of steps."""
    return "\n".join([show_step(step) for step in steps])


def show_step(step):
    """Tell the row of a step."""
    if step[0] == "new":
        return " ".join(["new"] + list(step[1]))
    kind, at, many = step
    return f"{kind} {at} {many}"


def show_rule(rule):
    """Tell the text of a rule."""
    if rule[0] == "not":
        return "not " + show_rule(rule[1])
    if rule[0] in ("all", "any"):
        return " ".join([rule[0]] + [show_rule(part) for part in rule[1:]] + ["end"])
    kind, fact, worth = rule
    return f"{kind} {fact} {worth}"


def show_charter(charter):
    """Tell the text of a charter."""
    number, holders, needs = charter
    first = " ".join(["charter", str(number)] + [str(need) for need in needs])
    return "\n".join([first] + [f"holder {name} {key}" for name, key in holders])


def show_list(told):
    """Tell the text of a list."""
    number, until, entries = told
    return "\n".join([f"list {number} {until}"] + [show_entry(entry) for entry in entries])


def show_entry(entry):
    """Tell the row of an entry."""
    name, size, total, grade, rule = entry
    return f"entry {name} {size} {total} {grade} " + show_rule(rule)


def whole_build(parts):
    """Tell the build of files; None where they are none."""
    return tuple(parts) if is_build(tuple(parts)) else None


def whole_rule(parts):
    """Tell the rule, which is one row; None where there are more."""
    return parts[0] if len(parts) == 1 else None


def whole_charter(parts):
    """Tell the charter of its first row and holders; None where they are none."""
    number, needs = parts[0]
    charter = (number, tuple(parts[1:]), needs)
    return charter if is_charter(charter) else None


def whole_list(parts):
    """Tell the list of its first row and entries; None where they are none."""
    number, until = parts[0]
    told = (number, until, tuple(parts[1:]))
    return told if is_list(told) else None


def row_in(kind, nth, row):
    """Tell what the nth row of a text of a kind is written of; None where it is none of its kind."""
    if kind == "build":
        return file_in(row)
    if kind == "steps":
        return step_in(row)
    if kind == "rule":
        return rule_in(row)
    if kind == "charter":
        return charter_in(row) if nth == 0 else holder_in(row)
    return list_in(row) if nth == 0 else entry_in(row)


def whole_of(kind, parts):
    """Tell what rows that are good alone are together; None where that is none of its kind."""
    if kind == "build":
        return whole_build(parts)
    if kind == "steps":
        return tuple(parts)
    if kind == "rule":
        return whole_rule(parts)
    return whole_charter(parts) if kind == "charter" else whole_list(parts)


def read(kind, text):
    """Tell what a text, of anything, is written of, by its kind; NoText where it is none."""
    if not isinstance(text, str):
        raise NoText(0)
    rows = [] if kind == "steps" and text == "" else text.split("\n")
    parts = [row_in(kind, nth, row) for nth, row in enumerate(rows)]
    if None in parts:
        raise NoText(parts.index(None))
    whole = whole_of(kind, parts)
    if whole is None:
        raise NoText(len(rows))
    return whole
