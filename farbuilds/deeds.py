"""What deeds of a machine write, by its cells."""

from farbuilds.cells import MOST_TRIES, boot_write, charter_write, list_write, running_room, standing
from farbuilds.letters import charter_word, filled, items_word, kind_of, list_word, permit_word


def start_writes(cells, moment):
    """Tell the list of what a start writes."""
    room, number, end, tries, failed = standing(cells)[3]
    if end is None:
        return []
    if tries == 0:
        tag = cells[2][1 - room][0]
        return [boot_write(cells, (room, number, None, 0, with_tag(failed, tag)))]
    if moment > end:
        return [boot_write(cells, (room, number, None, 0, failed))]
    return [boot_write(cells, (room, number, end, tries - 1, failed))]


def with_tag(tags, tag):
    """Tell tags, rising, each once, and another one beside them."""
    return tuple(sorted(set(tags + (tag,))))


def well_writes(cells):
    """Tell the list of what a finding well writes; it is empty where nothing is on trial."""
    boot = standing(cells)[3]
    if running_room(boot) == boot[0]:
        return []
    return [boot_write(cells, (1 - boot[0], boot[1], None, 0, ()))]


def taken_writes(name, facts, cells, letter, moment):
    """Tell the word of a letter, of anything, and the list of what its taking writes."""
    kind = kind_of(letter)
    if kind is None:
        return "strange", []
    word = word_of(kind, name, facts, cells, letter, moment)
    return word, letter_writes(kind, cells, letter) if word == "taken" else []


def word_of(kind, name, facts, cells, letter, moment):
    """Tell the word of a letter of a kind."""
    mark = standing(cells)
    turn, charter, listing, boot = mark
    if kind == "charter":
        return charter_word(charter, letter)
    if kind == "list":
        return list_word(charter, listing, letter, moment)
    if kind == "items":
        return items_word(boot, cells[2], letter)
    return permit_word(name, facts, mark, cells[2], letter, moment)


def letter_writes(kind, cells, letter):
    """Tell the list of what the taking of a letter writes."""
    if kind == "charter":
        return [charter_write(cells, letter[1])]
    if kind == "list":
        return [list_write(cells, letter[1])]
    if kind == "items":
        return items_writes(cells, letter)
    number, machine, title, end = letter[1]
    room, old, ended, tries, failed = standing(cells)[3]
    return [boot_write(cells, (room, number, end, MOST_TRIES, failed))]


def items_writes(cells, letter):
    """Tell the list of what a letter of items writes in the room that doesn't run."""
    kind, tag, base, at, steps = letter
    room = 1 - standing(cells)[3][0]
    whole = filled(cells[2][1 - room][1], cells[2][room][1], letter)
    tags = [("tag", room, tag)] if at == 0 else []
    return tags + [("item", room, item) for item in whole[at:]]
