"""The house's calls, one behind another, and their answers."""

from keyhousedesk.building import (
    NO_HOUSE,
    Desk,
    add_cylinder,
    add_door,
    add_key,
    count_all,
    fit_side,
    hang_key,
    keys_of_side,
    start_house,
    unhang_key,
)
from keyhousedesk.calls import (
    COUNTS_CALL,
    CYLINDER_CALL,
    DOOR_CALL,
    FIT_CALL,
    HANG_CALL,
    KEY_CALL,
    OPEN_CALL,
    OPENS_CALL,
    UNHANG_CALL,
    read_calls,
)
from keyhousedesk.makes import Cylinder, Key, Make


def answer_start(desk, wholes):
    make = Make(wholes[0], wholes[1], wholes[2], wholes[3], wholes[4], wholes[5])
    return start_house(desk, make, wholes[6])


def answer_door(house, wholes):
    ends = (wholes[0], wholes[1])
    first = (wholes[2], wholes[3])
    second = (wholes[4], wholes[5])
    return add_door(house, ends, first, second)


def answer_in_house(house, call):
    wholes = call.wholes
    if call.number == KEY_CALL:
        return add_key(house, Key(wholes[0], call.row))
    if call.number == CYLINDER_CALL:
        return add_cylinder(house, Cylinder(wholes[0], call.row))
    if call.number == DOOR_CALL:
        return answer_door(house, wholes)
    if call.number == FIT_CALL:
        return fit_side(house, wholes[0], (wholes[1], wholes[2]))
    if call.number == HANG_CALL:
        return hang_key(house, wholes[0], wholes[1])
    if call.number == UNHANG_CALL:
        return unhang_key(house, wholes[0])
    if call.number == COUNTS_CALL:
        return count_all(house)
    if call.number == OPENS_CALL:
        return keys_of_side(house, wholes[0])
    raise NotImplementedError("the calls from 9 on are not built yet")


def answer_call(desk, call):
    """What is answered to one call: its first number and what is told behind it."""
    if call.number == OPEN_CALL:
        return answer_start(desk, call.wholes)
    if desk.house is None:
        return [NO_HOUSE]
    return answer_in_house(desk.house, call)


def answers(calls):
    """For each call on a new object: how many numbers are answered, and these."""
    desk = Desk()
    given = []
    for call in read_calls(calls):
        answer = answer_call(desk, call)
        given.append(len(answer))
        given.extend(answer)
    return given
