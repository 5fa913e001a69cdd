"""The calls as lists of numbers, and answers taken apart call by call."""

from keyhousedesk.house import answers

GREATEST = 4294967295
LETTERS = 2 ** 26
FREE = (0, 0)
SHUT = (2, 0)


def locked(cylinder):
    return (1, cylinder)


def start(n=3, depths=5, step=2, pin=2, kinds=2, run=2, rooms=4):
    return [0, n, depths, step, pin, kinds, run, rooms]


def key(grooves, cuts):
    return [1, grooves, len(cuts)] + list(cuts)


def cylinder(wards, sets):
    return [2, wards, len(sets)] + list(sets)


def door(a, b, first=FREE, second=FREE):
    return [3, a, b] + list(first) + list(second)


def fit(side, what):
    return [4, side] + list(what)


def hang(number, room):
    return [5, number, room]


def unhang(number):
    return [6, number]


def counts():
    return [7]


def opens(side):
    return [8, side]


def bits(*places):
    return sum(1 << place for place in places)


def joined(calls):
    return [number for call in calls for number in call]


def taken_apart(numbers):
    apart = []
    place = 0
    while place < len(numbers):
        end = place + 1 + numbers[place]
        apart.append(numbers[place + 1:end])
        place = end
    return apart


def ask(*calls):
    """The answer to each of the calls, on a new object."""
    given = taken_apart(answers(joined(calls)))
    if len(given) != len(calls):
        raise AssertionError(f"{len(calls)} calls, {len(given)} answers")
    return given


def last(*calls):
    return ask(*calls)[-1]


def looks(*calls):
    """All that can be asked of the house behind these calls, with what hangs last: asking that takes it down."""
    probe = [counts()] + [opens(side) for side in range(50)] + [unhang(number) for number in range(9)]
    return ask(*calls, *probe)[len(calls):]
