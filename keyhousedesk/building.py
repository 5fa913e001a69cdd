"""A house, and the calls that tell of it: keys, cylinders, doors, sides, what hangs."""

from keyhousedesk.makes import is_cylinder, is_key, is_make, turns

NO_FORM = -1
FULL = -2
NOT_SO = -3
NOT_THERE = -4
NO_HOUSE = -5

FREE = 0
LOCKED = 1
SHUT = 2

ROOMS_MOST = 24
KEYS_MOST = 8
CYLINDERS_MOST = 16
DOORS_MOST = 24
HANGING_MOST = 4


class House:
    """Sides stand in one list, side s of door d at 2 * d + s; each is a pair of what and which."""

    def __init__(self, make, rooms):
        self.make = make
        self.rooms = rooms
        self.told_keys = []
        self.cylinders = []
        self.doors = []
        self.sides = []
        self.hanging = {}


class Desk:
    """The object that is called; its house is None until one is there."""

    def __init__(self):
        self.house = None


def start_house(desk, make, rooms):
    if not is_make(make) or rooms == 0 or rooms > ROOMS_MOST:
        return [NO_FORM]
    desk.house = House(make, rooms)
    return [0]


def add_key(house, key):
    if not is_key(house.make, key):
        return [NO_FORM]
    if len(house.told_keys) == KEYS_MOST:
        return [FULL]
    house.told_keys.append(key)
    return [len(house.told_keys) - 1]


def add_cylinder(house, cylinder):
    if not is_cylinder(house.make, cylinder):
        return [NO_FORM]
    if len(house.cylinders) == CYLINDERS_MOST:
        return [FULL]
    house.cylinders.append(cylinder)
    return [len(house.cylinders) - 1]


def tells_side(side):
    what = side[0]
    which = side[1]
    if what == LOCKED:
        return True
    return (what == FREE or what == SHUT) and which == 0


def is_room(house, room):
    return room < house.rooms


def is_told_key(house, key):
    return key < len(house.told_keys)


def is_side(house, number):
    return number < len(house.sides)


def lacks_cylinder(house, side):
    return side[0] == LOCKED and side[1] >= len(house.cylinders)


def add_door(house, ends, first, second):
    if not tells_side(first) or not tells_side(second):
        return [NO_FORM]
    if not is_room(house, ends[0]) or not is_room(house, ends[1]):
        return [NOT_THERE]
    if lacks_cylinder(house, first) or lacks_cylinder(house, second):
        return [NOT_THERE]
    if len(house.doors) == DOORS_MOST:
        return [FULL]
    house.doors.append(ends)
    house.sides.append(first)
    house.sides.append(second)
    return [len(house.doors) - 1]


def fit_side(house, number, side):
    if not tells_side(side):
        return [NO_FORM]
    if not is_side(house, number) or lacks_cylinder(house, side):
        return [NOT_THERE]
    house.sides[number] = side
    return [0]


def hang_key(house, key, room):
    if not is_told_key(house, key) or not is_room(house, room):
        return [NOT_THERE]
    # A key that hangs already only changes its room, so it never makes them more.
    if key not in house.hanging and len(house.hanging) == HANGING_MOST:
        return [FULL]
    house.hanging[key] = room
    return [0]


def unhang_key(house, key):
    if not is_told_key(house, key):
        return [NOT_THERE]
    if key not in house.hanging:
        return [NOT_SO]
    house.hanging.pop(key)
    return [0]


def count_all(house):
    return [0, len(house.told_keys), len(house.cylinders), len(house.doors), house.rooms]


def keys_that_turn(house, cylinder):
    return [number for number, key in enumerate(house.told_keys) if turns(key, cylinder)]


def keys_of_side(house, number):
    if not is_side(house, number):
        return [NOT_THERE]
    side = house.sides[number]
    if side[0] != LOCKED:
        return [0]
    turning = keys_that_turn(house, house.cylinders[side[1]])
    return [len(turning)] + turning
