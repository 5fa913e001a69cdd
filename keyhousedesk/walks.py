"""Walks with a bunch: which sides it passes, where it leads, and the first walk to each room."""

from keyhousedesk.building import FREE, LOCKED, keys_that_turn


class Passage:
    """A side as one stands before it: its number, the room behind it, the keys that turn it (by bits)."""

    def __init__(self, side, behind, is_free, turners):
        self.side = side
        self.behind = behind
        self.is_free = is_free
        self.turners = turners


def bits_of(numbers):
    return sum([1 << number for number in numbers])


def passage_of(house, turners, number):
    side = house.sides[number]
    ends = house.doors[number // 2]
    behind = ends[1 - number % 2]
    if side[0] == LOCKED:
        return Passage(number, behind, False, turners[side[1]])
    return Passage(number, behind, side[0] == FREE, 0)


def passages_by_room(house):
    """For each room the sides that stand in it, by rising numbers: the order in which walks are told rests on it."""
    turners = [bits_of(keys_that_turn(house, cylinder)) for cylinder in house.cylinders]
    by_room = [[] for room in range(house.rooms)]
    for number in range(len(house.sides)):
        ends = house.doors[number // 2]
        by_room[ends[number % 2]].append(passage_of(house, turners, number))
    return by_room


def passes(bunch, passage):
    return passage.is_free or (passage.turners & bunch) != 0


def without_side(by_room, side):
    left = []
    for passages in by_room:
        left.append([passage for passage in passages if passage.side != side])
    return left


def first_walks(by_room, bunch, start):
    """For each room to which the bunch leads, the first walk there, as the numbers of its sides.

    Rooms wait in the order of their first walks, and a room's sides are gone through by rising numbers: so the walk
    that comes to a room first is the first of all walks that end there.
    """
    walks = {start: []}
    waiting = [start]
    place = 0
    while place < len(waiting):
        here = waiting[place]
        place += 1
        for passage in by_room[here]:
            if passage.behind not in walks and passes(bunch, passage):
                walks[passage.behind] = walks[here] + [passage.side]
                waiting.append(passage.behind)
    return walks


def does_lead(by_room, bunch, start, goal):
    return goal in first_walks(by_room, bunch, start)


def rooms_led_to(by_room, bunch, start):
    return sorted(first_walks(by_room, bunch, start))


def rooms_not_leading(by_room, bunch, goal):
    return [room for room in range(len(by_room)) if not does_lead(by_room, bunch, room, goal)]


def sides_of_every_walk(by_room, bunch, start, goal):
    """The sides, rising, without which there is no walk; the bunch leads from start to goal."""
    # Only a side of the first walk can be one of every walk.
    walk = first_walks(by_room, bunch, start)[goal]
    return [side for side in sorted(walk) if not does_lead(without_side(by_room, side), bunch, start, goal)]


def traps_in_room(by_room, bunch, room):
    traps = []
    for passage in by_room[room]:
        if passes(bunch, passage) and not does_lead(by_room, bunch, passage.behind, room):
            traps.append(passage.side)
    return traps


def traps_from(by_room, bunch, start):
    traps = []
    for room in first_walks(by_room, bunch, start):
        traps.extend(traps_in_room(by_room, bunch, room))
    return sorted(traps)


def least_rooms_of_parts(by_room, bunch):
    """For each room the least of those that the bunch leads to from it and back."""
    reached = [first_walks(by_room, bunch, room) for room in range(len(by_room))]
    least = []
    for room in range(len(by_room)):
        least.append(min([other for other in reached[room] if room in reached[other]]))
    return least
