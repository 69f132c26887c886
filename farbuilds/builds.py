"""Builds, their rows of items, and the tags of rows."""

from farbuilds.errors import NoBuild
from farbuilds.sums import MODULUS, sum_of
from farbuilds.words import MOST_ITEMS, are_items, are_rising, is_between, is_word

MOST_FILES = 6
MOST_WORDS = 40


def is_build(thing):
    """Tell of anything whether it is a build."""
    if not isinstance(thing, tuple) or not 1 <= len(thing) <= MOST_FILES:
        return False
    if not all([is_file(part) for part in thing]):
        return False
    if not are_rising([name for name, words in thing]):
        return False
    return len(row_of(thing)) <= MOST_ITEMS


def is_file(thing):
    """Tell of anything whether it is a file."""
    if not isinstance(thing, tuple) or len(thing) != 2:
        return False
    name, words = thing
    if not is_word(name) or not isinstance(words, tuple) or len(words) > MOST_WORDS:
        return False
    return all([is_word(word) for word in words])


def row_of(build):
    """Tell the row of a build."""
    items = []
    for name, words in build:
        items.append("=" + name)
        items.extend(words)
    return tuple(items)


def build_of(row):
    """Tell the build of a row; of what is no row of a build NoBuild."""
    if not are_items(row) or not row or not row[0].startswith("="):
        raise NoBuild(row)
    build = files_of(row)
    if not is_build(build):
        raise NoBuild(row)
    return build


def files_of(row):
    """Tell the files of items of which the first one has a file's name."""
    files = []
    for item in row:
        if item.startswith("="):
            files.append((item[1:], []))
        else:
            files[-1][1].append(item)
    return tuple([(name, tuple(words)) for name, words in files])


def tag_of(name, row):
    """Tell the tag of a row by a name."""
    return name, len(row), sum_of(row)


def is_tag(thing):
    """Tell of anything whether it is a tag."""
    if not isinstance(thing, tuple) or len(thing) != 3:
        return False
    name, size, total = thing
    return is_word(name) and is_between(size, 1, MOST_ITEMS) and is_between(total, 0, MODULUS - 1)
