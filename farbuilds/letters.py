"""Letters to a machine: by form, and the word that a machine tells of each."""

from farbuilds.builds import is_tag
from farbuilds.cells import is_whole
from farbuilds.charters import is_charter, is_list, is_permit, lets_charter, lets_list, lets_permit
from farbuilds.errors import NoSteps
from farbuilds.rules import lets
from farbuilds.steps import are_steps, written
from farbuilds.words import MOST_ITEMS, is_between


def kind_of(thing):
    """Tell of anything which kind of letter it is by form; None where it is none."""
    if not isinstance(thing, tuple) or not thing:
        return None
    if thing[0] == "items":
        return "items" if is_items(thing) else None
    if len(thing) != 3:
        return None
    if thing[0] == "charter" and is_charter(thing[1]):
        return "charter"
    if thing[0] == "list" and is_list(thing[1]):
        return "list"
    if thing[0] == "permit" and is_permit(thing[1]):
        return "permit"
    return None


def is_items(thing):
    """Tell of a tuple whether it is a letter of items but for its first part."""
    if len(thing) != 5:
        return False
    kind, tag, base, at, steps = thing
    return is_tag(tag) and is_tag(base) and is_between(at, 0, MOST_ITEMS) and are_steps(steps)


def charter_word(charter, letter):
    """Tell the word of a charter's letter, by the charter that stands."""
    kind, other, marks = letter
    if other[0] <= charter[0]:
        return "known"
    if other[0] > charter[0] + 1:
        return "far"
    return "taken" if lets_charter(charter, other, marks) else "unmarked"


def list_word(charter, listing, letter, moment):
    """Tell the word of a list's letter, by the charter and the list that stand."""
    kind, told, marks = letter
    if listing is not None and told[0] <= listing[0]:
        return "known"
    if not lets_list(charter, told, marks):
        return "unmarked"
    return "past" if moment > told[1] else "taken"


def items_word(boot, rooms, letter):
    """Tell the word of a letter of items."""
    kind, tag, base, at, steps = letter
    if boot[2] is not None:
        return "trial"
    # Without a trial it is boot's room that runs.
    runs, row = rooms[boot[0]]
    if tag == runs:
        return "runs"
    if base != runs:
        return "base"
    held, begun = rooms[1 - boot[0]]
    if at != 0 and (held != tag or at != len(begun)):
        return "place"
    return "wrong" if filled(row, begun, letter) is None else "taken"


def filled(row, begun, letter):
    """Tell all items that a letter of items leaves in the other room, which has begun; None where that can't be."""
    kind, tag, base, at, steps = letter
    try:
        whole = written(row, begun[:at], steps)
    except NoSteps:
        return None
    return whole if len(whole) <= tag[1] else None


def permit_word(name, facts, mark, rooms, letter, moment):
    """Tell the word of a permit's letter, for the machine of a name with these facts and this mark."""
    kind, permit, marks = letter
    number, machine, title, end = permit
    turn, charter, listing, boot = mark
    if machine != name:
        return "other"
    if number <= boot[1]:
        return "old"
    if not lets_permit(charter, permit, marks):
        return "unmarked"
    if moment > end:
        return "over"
    entry = entry_of(listing, title)
    if entry is None:
        return "unlisted"
    if moment > listing[1]:
        return "past"
    return entry_word(facts, boot, rooms, entry)


def entry_of(listing, title):
    """Tell the entry of a name in a list, which may be None; None where there is none."""
    if listing is not None:
        for entry in listing[2]:
            if entry[0] == title:
                return entry
    return None


def entry_word(facts, boot, rooms, entry):
    """Tell the word of a permit by the entry that it speaks of."""
    room, number, end, tries, failed = boot
    tag = entry[:3]
    if not lets(entry[4], facts):
        return "unlet"
    if end is not None:
        return "trial"
    if tag == rooms[room][0]:
        return "runs"
    if tag in failed:
        return "failed"
    held, row = rooms[1 - room]
    return "taken" if held == tag and is_whole(tag, row) else "room"
