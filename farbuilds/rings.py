"""Rings of machines: which one is open, by gates and what was heard of machines in lesser rings."""

from farbuilds.reports import failed_tags, well_tag


def is_well(far, tag, begun, wait, moment):
    """Tell whether a machine was found well, of a roll-out begun at a moment, for wait or longer at another one."""
    return well_tag(far.heard) == tag and moment - max(far.well_since, begun) >= wait


def is_failed(far, tag):
    """Tell whether a build failed on a machine, by what was heard last of it."""
    return tag in failed_tags(far.heard)


def is_ring_open(ring, gates, fars, tag, begun, moment):
    """Tell whether a ring is open at a moment, of a roll-out of a tag that began at another one."""
    if ring == 0 or ring > len(gates):
        return True
    need, wait, most = gates[ring - 1]
    lesser = [far for far in fars if far.ring < ring]
    well = [far.name for far in lesser if is_well(far, tag, begun, wait, moment)]
    failed = [far.name for far in lesser if is_failed(far, tag)]
    return len(well) >= need and len(failed) <= most
