"""The house's calls, one behind another, and their answers."""

from keyhousedesk.building import (
    NO_FORM,
    NO_HOUSE,
    Desk,
    add_cylinder,
    add_door,
    add_key,
    count_all,
    fit_side,
    hang_key,
    keys_of_side,
    start_house,
    unhang_key,
)
from keyhousedesk.calls import (
    COUNTS_CALL,
    CYLINDER_CALL,
    DOOR_CALL,
    FIT_CALL,
    FOUND_CALL,
    HANG_CALL,
    KEY_CALL,
    LEADS_CALL,
    NEEDED_CALL,
    OPEN_CALL,
    OPENS_CALL,
    SHUT_CALL,
    SMALL_CALL,
    THROUGH_CALL,
    TRAPS_CALL,
    UNHANG_CALL,
    WAY_CALL,
    read_calls,
)
from keyhousedesk.makes import Cylinder, Key, Make
from keyhousedesk.questions import (
    ask_found,
    ask_leads,
    ask_needed,
    ask_parts,
    ask_shut,
    ask_small,
    ask_through,
    ask_traps,
    ask_way,
    refusal_of,
)


def answer_start(desk, wholes):
    make = Make(wholes[0], wholes[1], wholes[2], wholes[3], wholes[4], wholes[5])
    return start_house(desk, make, wholes[6])


def answer_door(house, wholes):
    ends = (wholes[0], wholes[1])
    first = (wholes[2], wholes[3])
    second = (wholes[4], wholes[5])
    return add_door(house, ends, first, second)


def answer_telling(house, call):
    wholes = call.wholes
    if call.number == KEY_CALL:
        return add_key(house, Key(wholes[0], call.row))
    if call.number == CYLINDER_CALL:
        return add_cylinder(house, Cylinder(wholes[0], call.row))
    if call.number == DOOR_CALL:
        return answer_door(house, wholes)
    if call.number == FIT_CALL:
        return fit_side(house, wholes[0], (wholes[1], wholes[2]))
    if call.number == HANG_CALL:
        return hang_key(house, wholes[0], wholes[1])
    if call.number == UNHANG_CALL:
        return unhang_key(house, wholes[0])
    if call.number == COUNTS_CALL:
        return count_all(house)
    return keys_of_side(house, wholes[0])


def answer_question(house, call):
    """The answer to a call whose bunch and rooms are there."""
    wholes = call.wholes
    bunch = wholes[0]
    if call.number == LEADS_CALL:
        return ask_leads(house, bunch, wholes[1])
    if call.number == FOUND_CALL:
        return ask_found(house, bunch, wholes[1])
    if call.number == WAY_CALL:
        return ask_way(house, bunch, wholes[1], wholes[2])
    if call.number == SMALL_CALL:
        return ask_small(house, bunch, wholes[1], wholes[2], wholes[3])
    if call.number == NEEDED_CALL:
        return ask_needed(house, bunch, wholes[1], wholes[2])
    if call.number == THROUGH_CALL:
        return ask_through(house, bunch, wholes[1], wholes[2])
    if call.number == TRAPS_CALL:
        return ask_traps(house, bunch, wholes[1])
    if call.number == SHUT_CALL:
        return ask_shut(house, bunch, wholes[1])
    return ask_parts(house, bunch)


def answer_asking(house, call):
    if call.number == SMALL_CALL and call.wholes[3] > 1:
        return [NO_FORM]
    # Behind the bunch each of these calls has its rooms, two at most; small has back behind them.
    refusal = refusal_of(house, call.wholes[0], call.wholes[1:3])
    if refusal is not None:
        return refusal
    return answer_question(house, call)


def answer_call(desk, call):
    """What is answered to one call: its first number and what is told behind it."""
    if call.number == OPEN_CALL:
        return answer_start(desk, call.wholes)
    if desk.house is None:
        return [NO_HOUSE]
    if call.number <= OPENS_CALL:
        return answer_telling(desk.house, call)
    return answer_asking(desk.house, call)


def answers(calls):
    """For each call on a new object: how many numbers are answered, and these."""
    desk = Desk()
    given = []
    for call in read_calls(calls):
        answer = answer_call(desk, call)
        given.append(len(answer))
        given.extend(answer)
    return given
