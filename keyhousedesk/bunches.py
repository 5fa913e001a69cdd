"""Bunches: sets of keys by bits, their order, and which of them a walk asks for."""

from keyhousedesk.building import KEYS_MOST
from keyhousedesk.makes import has_bit
from keyhousedesk.walks import does_lead


def keys_in(bunch):
    """The keys of a bunch, rising."""
    return [key for key in range(KEYS_MOST) if has_bit(bunch, key)]


def place_in_order(bunch):
    chosen = keys_in(bunch)
    return (len(chosen), chosen)


def bunches_in_order(bunch):
    """All bunches of keys of this one, fewer keys first, then by their keys."""
    parts = [part for part in range(bunch + 1) if (part & bunch) == part]
    return sorted(parts, key=place_in_order)


def leads_as_asked(by_room, bunch, start, goal, with_back):
    if not does_lead(by_room, bunch, start, goal):
        return False
    return not with_back or does_lead(by_room, bunch, goal, start)


def smallest_bunch(by_room, bunch, start, goal, with_back):
    """The first bunch of keys of this one that leads as asked, or None."""
    for part in bunches_in_order(bunch):
        if leads_as_asked(by_room, part, start, goal, with_back):
            return part
    return None


def needed_keys(by_room, bunch, start, goal):
    """The keys, rising, that are in every bunch of these that leads from start to goal; the whole bunch does."""
    # Without one key the rest is the most one can have: if even that doesn't lead, the key is in all that do.
    return [key for key in keys_in(bunch) if not does_lead(by_room, bunch ^ (1 << key), start, goal)]
