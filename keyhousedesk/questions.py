"""The calls that ask of bunches and walks; the bunch and the rooms that they are handed are there."""

from keyhousedesk.building import NO_FORM, NOT_SO, NOT_THERE, is_room
from keyhousedesk.bunches import keys_in, needed_keys, smallest_bunch
from keyhousedesk.finding import hung_by_room, keys_of_states, rooms_of_states, states_from
from keyhousedesk.walks import (
    does_lead,
    first_walks,
    least_rooms_of_parts,
    passages_by_room,
    rooms_led_to,
    rooms_not_leading,
    sides_of_every_walk,
    traps_from,
)


def refusal_of(house, bunch, rooms):
    """The refusal that all these calls share, or None."""
    if bunch >> len(house.told_keys) != 0:
        return [NO_FORM]
    if not all([is_room(house, room) for room in rooms]):
        return [NOT_THERE]
    return None


def counted(numbers):
    return [len(numbers)] + numbers


def ask_leads(house, bunch, start):
    return counted(rooms_led_to(passages_by_room(house), bunch, start))


def ask_found(house, bunch, start):
    states = states_from(passages_by_room(house), hung_by_room(house), bunch, start)
    return counted(rooms_of_states(states)) + keys_in(keys_of_states(states))


def ask_way(house, bunch, start, goal):
    walk = first_walks(passages_by_room(house), bunch, start).get(goal)
    if walk is None:
        return [NOT_SO]
    return counted(walk)


def ask_small(house, bunch, start, goal, back):
    smallest = smallest_bunch(passages_by_room(house), bunch, start, goal, back == 1)
    if smallest is None:
        return [NOT_SO]
    return counted(keys_in(smallest))


def ask_needed(house, bunch, start, goal):
    by_room = passages_by_room(house)
    if not does_lead(by_room, bunch, start, goal):
        return [NOT_SO]
    return counted(needed_keys(by_room, bunch, start, goal))


def ask_through(house, bunch, start, goal):
    by_room = passages_by_room(house)
    if not does_lead(by_room, bunch, start, goal):
        return [NOT_SO]
    return counted(sides_of_every_walk(by_room, bunch, start, goal))


def ask_traps(house, bunch, start):
    return counted(traps_from(passages_by_room(house), bunch, start))


def ask_shut(house, bunch, goal):
    return counted(rooms_not_leading(passages_by_room(house), bunch, goal))


def ask_parts(house, bunch):
    least = least_rooms_of_parts(passages_by_room(house), bunch)
    return [len(set(least))] + least
