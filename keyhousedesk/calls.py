"""How the calls stand in the one list: a call's number, its whole numbers, its row."""

OPEN_CALL = 0
KEY_CALL = 1
CYLINDER_CALL = 2
DOOR_CALL = 3
FIT_CALL = 4
HANG_CALL = 5
UNHANG_CALL = 6
COUNTS_CALL = 7
OPENS_CALL = 8
LEADS_CALL = 9
FOUND_CALL = 10
WAY_CALL = 11
SMALL_CALL = 12
NEEDED_CALL = 13
THROUGH_CALL = 14
TRAPS_CALL = 15
SHUT_CALL = 16

# By a call's number: how many whole numbers it has ahead of its row.
WHOLES = (7, 1, 1, 6, 3, 2, 1, 0, 1, 2, 2, 3, 4, 3, 3, 2, 2, 1)


class Call:
    """One call as it stands in the list; behind is where the one after it begins."""

    def __init__(self, number, wholes, row, behind):
        self.number = number
        self.wholes = wholes
        self.row = row
        self.behind = behind


def read_call(numbers, place):
    number = numbers[place]
    wholes_end = place + 1 + WHOLES[number]
    wholes = numbers[place + 1:wholes_end]
    if number != KEY_CALL and number != CYLINDER_CALL:
        return Call(number, wholes, [], wholes_end)
    row_end = wholes_end + 1 + numbers[wholes_end]
    return Call(number, wholes, numbers[wholes_end + 1:row_end], row_end)


def read_calls(numbers):
    read = []
    place = 0
    while place < len(numbers):
        call = read_call(numbers, place)
        read.append(call)
        place = call.behind
    return read
