"""Looks at papers of logs, and what two unlike things of one sum a wrong paper that is let by gives away."""

from farbuilds.halves import half_gone_to, half_left, half_of, joined, leaf, node, root_of, way_to_few, way_to_one
from farbuilds.reports import is_marked, is_report, ran_tag
from farbuilds.sums import MODULUS, has_sum, sum_of
from farbuilds.words import is_between


def are_sums(thing):
    """Tell of anything whether it is a list of sums."""
    return isinstance(thing, list) and all([is_between(part, 0, MODULUS - 1) for part in thing])


def roots_up(root, paper, way):
    """Tell the roots that come of one at the end of a way down, itself first, by a paper from there up."""
    roots = [root]
    for beside, second in zip(paper, way[::-1]):
        roots.append(sum_of(joined(roots[-1], beside, second)))
    return roots


def is_in(head, number, thing, paper):
    """Tell of anything whether it is a paper of a thing, as the number-th one, in a log of a head."""
    count, root = head
    if not is_between(number, 0, count - 1) or not has_sum(thing) or not are_sums(paper):
        return False
    way = way_to_one(number, count)
    return len(paper) == len(way) and roots_up(sum_of(leaf(thing)), paper, way)[-1] == root


def is_begun(head, other, paper):
    """Tell of anything whether it is a paper that a log of one head is the beginning of one of another head."""
    few, root = head
    count, whole = other
    if not is_between(few, 1, count) or not are_sums(paper):
        return False
    way = way_to_few(few, count)
    end, rest = ends_apart(root, paper, way)
    if len(rest) != len(way):
        return False
    return roots_up(end, rest, way)[-1] == whole and few_roots_up(end, rest, way)[-1] == root


def ends_apart(root, paper, way):
    """Tell what both logs have at the end of a way down, by a paper, and the rest of it, none where it lacks."""
    if True not in way:
        return root, paper
    return (paper[0], paper[1:]) if paper else (root, [])


def few_roots_up(root, paper, way):
    """Tell the roots of the log that is the beginning, likewise: it has nothing beside its first halves."""
    roots = [root]
    for beside, second in zip(paper, way[::-1]):
        roots.append(sum_of(node(beside, roots[-1])) if second else roots[-1])
    return roots


def dug_in(log, number, thing, paper):
    """Tell two unlike things of one sum, where a paper of a thing that isn't the number-th is let by; else None."""
    if not is_in(log.head(), number, thing, paper):
        return None
    things, leaves = log.things(), log.first_leaves(None)
    if things[number] == thing:
        return None
    way = way_to_one(number, len(things))
    roots = roots_up(sum_of(leaf(thing)), paper, way)[:-1]
    for second, root, beside in zip(way, roots[::-1], paper[::-1]):
        found = unlike(node_over(leaves), joined(root, beside, second))
        if found is not None:
            return found
        leaves = half_gone_to(leaves, second)
    return unlike(leaf(things[number]), leaf(thing))


def unlike(one, other):
    """Tell both where they are unlike, else None."""
    return None if one == other else (one, other)


def node_over(leaves):
    """Tell what stands for both halves of a row of two or more."""
    half = half_of(len(leaves))
    return node(root_of(leaves[:half]), root_of(leaves[half:]))


def dug_begun(log, other, paper):
    """Tell likewise where a paper is let by of a log that isn't the beginning of the other one; else None."""
    mine, others = log.things(), other.things()
    if mine == others[:len(mine)] or not is_begun(log.head(), other.head(), paper):
        return None
    way = way_to_few(len(mine), len(others))
    end, rest = ends_apart(log.head()[1], paper, way)
    few_roots, roots = few_roots_up(end, rest, way)[:-1], roots_up(end, rest, way)[:-1]
    for second, few_root, root, beside in zip(way, few_roots[::-1], roots[::-1], rest[::-1]):
        found = unlike(node_over(leaves_of(others)), joined(root, beside, second))
        if found is None and second:
            found = dug_second(mine, others, node(beside, few_root))
        if found is not None:
            return found
        mine = half_gone_to(mine, True) if second else mine
        others = half_gone_to(others, second)
    return dug_alike(mine, others)


def dug_second(mine, others, told):
    """Tell what is unlike where the way goes on in the second half: in the node over mine, or in the first halves."""
    found = unlike(node_over(leaves_of(mine)), told)
    if found is not None:
        return found
    # The paper's root of the first half is now that of both logs.
    return dug_alike(half_left(mine, True), half_left(others, True))


def leaves_of(things):
    """Tell the sum of what stands for each thing alone."""
    return [sum_of(leaf(thing)) for thing in things]


def dug_alike(mine, others):
    """Tell what is unlike between as many things of one root; None where all are alike."""
    if mine == others:
        return None
    while len(mine) > 1:
        found = unlike(node_over(leaves_of(mine)), node_over(leaves_of(others)))
        if found is not None:
            return found
        second = half_gone_to(mine, False) == half_gone_to(others, False)
        mine, others = half_gone_to(mine, second), half_gone_to(others, second)
    return unlike(leaf(mine[0]), leaf(others[0]))


def ran(head, key, number, letter, paper):
    """Tell the tag that the machine of a key ran when it told a report that stands in a log of a head; else None."""
    if not is_report(letter) or not is_marked(letter, key) or not is_in(head, number, letter, paper):
        return None
    return ran_tag(letter)
