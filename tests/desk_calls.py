"""The calls as lists of numbers, and answers taken apart call by call."""

from keyhousedesk.house import answers

GREATEST = 4294967295
LETTERS = 2 ** 26
FREE = (0, 0)
SHUT = (2, 0)


def locked(cylinder):
    return (1, cylinder)


def start(n=3, depths=5, step=2, pin=2, kinds=2, run=2, rooms=4):
    return [0, n, depths, step, pin, kinds, run, rooms]


def key(grooves, cuts):
    return [1, grooves, len(cuts)] + list(cuts)


def cylinder(wards, sets):
    return [2, wards, len(sets)] + list(sets)


def door(a, b, first=FREE, second=FREE):
    return [3, a, b] + list(first) + list(second)


def fit(side, what):
    return [4, side] + list(what)


def hang(number, room):
    return [5, number, room]


def unhang(number):
    return [6, number]


def counts():
    return [7]


def opens(side):
    return [8, side]


def leads(bunch, r):
    return [9, bunch, r]


def found(bunch, r):
    return [10, bunch, r]


def way(bunch, r, t):
    return [11, bunch, r, t]


def small(bunch, r, t, back=0):
    return [12, bunch, r, t, back]


def needed(bunch, r, t):
    return [13, bunch, r, t]


def through(bunch, r, t):
    return [14, bunch, r, t]


def traps(bunch, r):
    return [15, bunch, r]


def shut(bunch, t):
    return [16, bunch, t]


def parts(bunch):
    return [17, bunch]


def bits(*places):
    return sum(1 << place for place in places)


def joined(calls):
    return [number for call in calls for number in call]


def taken_apart(numbers):
    apart = []
    place = 0
    while place < len(numbers):
        end = place + 1 + numbers[place]
        apart.append(numbers[place + 1:end])
        place = end
    return apart


def ask(*calls):
    """The answer to each of the calls, on a new object."""
    given = taken_apart(answers(joined(calls)))
    if len(given) != len(calls):
        raise AssertionError(f"{len(calls)} calls, {len(given)} answers")
    return given


def last(*calls):
    return ask(*calls)[-1]


def looks(*calls):
    """All that can be asked of the house behind these calls; unhang comes last, for it takes down what hangs."""
    probe = [counts()] + [opens(side) for side in range(50)]
    for bunch in (0, 1, 2, 5, 255):
        probe += [parts(bunch)] + [asked(bunch, room) for asked in (leads, found, traps, shut) for room in range(4)]
        probe += [asked(bunch, room, 3) for asked in (way, small, needed, through) for room in range(4)]
    probe += [unhang(number) for number in range(9)]
    return ask(*calls, *probe)[len(calls):]


def keyed(rooms, told_keys, *turned_by):
    """A house without doors, so many rooms and keys; cylinder c is turned just by the keys in turned_by[c]."""
    told = [start(n=1, depths=10, step=1, pin=1, kinds=1, run=1, rooms=rooms)]
    told += [key(0, [number]) for number in range(told_keys)]
    # No key is cut to depth 9.
    return told + [cylinder(0, [bits(*numbers) or bits(9)]) for numbers in turned_by]


def answered(house, *questions):
    """The answers to the questions alone; all that tells of the house must be taken."""
    given = ask(*house, *questions)
    refused = [call for call, answer in zip(house, given) if answer[0] < 0]
    if refused:
        raise AssertionError(f"refused: {refused}")
    return given[len(house):]
