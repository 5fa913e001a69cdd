"""F7, the interface, and long lists of calls held against a second telling of the document."""

import random
import unittest

from desk_calls import (
    FREE, GREATEST, LETTERS, SHUT, ask, bits, counts, cylinder, door, fit, hang, joined, key, locked, looks, opens,
    start, taken_apart, unhang,
)
from keyhousedesk.house import answers

HOUSE = [
    start(),
    *[key(0, [0, 0, 0])] * 3, *[key(1, [2, 2, 2])] * 3,
    cylinder(0, [1, 1, 1]), cylinder(1, [bits(0, 2)] * 3),
    door(0, 1, locked(0), FREE), door(1, 2, SHUT, locked(1)), door(3, 3, locked(1), locked(0)),
    *[hang(number, 1) for number in range(4)],
]
FULL = [
    start(),
    *[key(0, [0, 0, 0])] * 8, *[cylinder(0, [1, 1, 1])] * 16, *[door(0, 1, locked(0), FREE)] * 24,
    *[hang(number, 2) for number in range(4)],
]
REFUSED = [
    (start(n=8), -1), (start(depths=11), -1), (start(step=5), -1), (start(pin=0), -1), (start(kinds=4), -1),
    (start(run=4), -1), (start(rooms=0), -1), (start(rooms=25), -1),
    (key(0, []), -1), (key(0, [0, 0, 5]), -1), (key(LETTERS, [0, 0, 0]), -1),
    (cylinder(0, [1, 1]), -1), (cylinder(0, [1, 1, 0]), -1), (cylinder(0, [1, 1, 3]), -1),
    (cylinder(LETTERS, [1, 1, 1]), -1),
    (door(0, 1, (0, 1), FREE), -1), (door(0, 1, FREE, (3, 0)), -1), (door(4, 0), -4), (door(0, 4), -4),
    (door(0, 1, locked(16), FREE), -4), (door(0, 1, FREE, locked(16)), -4),
    (fit(0, (2, 1)), -1), (fit(48, FREE), -4), (fit(0, locked(16)), -4),
    (hang(8, 0), -4), (hang(0, 4), -4), (hang(5, 0), -2),
    (unhang(8), -4), (unhang(5), -3), (opens(48), -4),
]
REFUSED_WHERE_FULL = [(key(0, [0, 0, 0]), -2), (cylinder(0, [1, 1, 1]), -2), (door(0, 1, FREE, SHUT), -2)]


class RefusedCalls(unittest.TestCase):
    def changes_nothing(self, house, refused):
        before = looks(*house)
        for call, number in refused:
            self.assertEqual(ask(*house, call)[-1], [number], call)
            self.assertEqual(looks(*house, call), before, call)

    def test_a_refused_call_changes_nothing(self):
        self.changes_nothing(HOUSE, REFUSED)

    def test_a_refused_call_changes_nothing_where_all_is_full(self):
        self.changes_nothing(FULL, REFUSED + REFUSED_WHERE_FULL)

    def test_what_comes_next_is_numbered_as_if_nothing_had_been_refused(self):
        refused = [call for call, number in REFUSED]
        told = [key(0, [0, 0, 0]), cylinder(0, [1, 1, 1]), door(0, 1), fit(7, locked(2)), opens(7)]
        self.assertEqual(ask(*HOUSE, *refused, *told)[-5:], [[6], [2], [3], [0], [4, 0, 1, 2, 6]])

    def test_a_call_before_a_house_changes_nothing(self):
        early = [key(0, [0, 0, 0]), cylinder(0, [1, 1, 1]), door(0, 1), hang(0, 0)]
        self.assertEqual(ask(*early), [[-5]] * 4)
        self.assertEqual(looks(*early, *HOUSE), looks(*HOUSE))

    def test_a_new_house_has_nothing_of_the_one_before(self):
        self.assertEqual(looks(*FULL, start(rooms=7)), looks(start(rooms=7)))
        self.assertEqual(ask(*FULL, start(rooms=7), counts(), opens(0))[-2:], [[0, 0, 0, 0, 7], [-4]])

    def test_a_new_house_has_a_make_of_its_own(self):
        one_chamber = start(n=1, depths=2, step=1, pin=1, kinds=1, run=1)
        given = ask(start(), one_chamber, key(0, [1]), key(0, [0, 0, 0]), key(0, [2]), cylinder(0, [3]))
        self.assertEqual(given[2:], [[0], [-1], [-1], [0]])

    def test_a_refused_start_keeps_the_make_that_was_there(self):
        given = ask(start(), start(n=1, depths=2, step=1, pin=1, kinds=1, run=1, rooms=0), key(0, [4, 4, 4]))
        self.assertEqual(given[1:], [[-1], [0]])


class Interface(unittest.TestCase):
    def test_how_answers_stand_in_the_list(self):
        calls = joined([counts(), start(), key(0, [0, 0, 0]), cylinder(0, [1, 1, 1]),
                        door(0, 1, locked(0), FREE), opens(0), opens(1), opens(2), counts()])
        self.assertEqual(answers(calls), [1, -5, 1, 0, 1, 0, 1, 0, 1, 0, 2, 1, 0, 1, 0, 1, -4, 5, 0, 1, 1, 1, 4])

    def test_rows_without_numbers_and_of_16(self):
        given = ask(start(), key(0, []), counts(), cylinder(0, [7] * 16), counts())
        self.assertEqual(given, [[0], [-1], [0, 0, 0, 0, 4], [-1], [0, 0, 0, 0, 4]])

    def test_every_call_but_the_first_before_a_house(self):
        later = [[9, 0, 0], [10, 0, 0], [11, 0, 0, 0], [12, 0, 0, 0, 2], [13, 0, 0, 0], [14, 0, 0, 0],
                 [15, 0, 0], [16, 0, 0], [17, 0]]
        early = [key(0, []), cylinder(0, []), door(0, 0), fit(0, FREE), hang(0, 0), unhang(0), counts(), opens(0)]
        self.assertEqual(ask(*early, *later, *early), [[-5]] * 25)

    def test_the_greatest_number_everywhere(self):
        most = GREATEST
        calls = [start(most, most, most, most, most, most, most), start(), key(most, [most] * 16),
                 cylinder(most, [most] * 16), door(most, most, (most, most), (most, most)), fit(most, (most, most)),
                 hang(most, most), unhang(most), opens(most), counts()]
        given = [[-1], [0], [-1], [-1], [-1], [-1], [-4], [-4], [-4], [0, 0, 0, 0, 4]]
        self.assertEqual(ask(*calls), given)

    def test_what_is_handed_in_stays_as_it_was(self):
        calls = joined(HOUSE + [call for call, number in REFUSED] + [counts()])
        kept = list(calls)
        answers(calls)
        self.assertEqual(calls, kept)

    def test_nothing_is_kept_from_one_time_to_the_next(self):
        first = answers(joined(FULL))
        self.assertEqual(answers(counts()), [1, -5])
        self.assertEqual(answers(joined(FULL)), first)

    def test_what_is_given_back_is_the_callers(self):
        calls = joined(HOUSE + [opens(0)])
        first = answers(calls)
        kept = list(first)
        first.clear()
        self.assertEqual(answers(calls), kept)

    def test_whole_numbers_in_a_list(self):
        given = answers(joined(HOUSE + [opens(0), counts()]))
        self.assertIs(type(given), list)
        self.assertEqual({type(number) for number in given}, {int})

    def test_400_calls(self):
        self.assertEqual(ask(start(), *[counts()] * 399), [[0]] + [[0, 0, 0, 0, 4]] * 399)


# Each call with 0, if it is taken, or with a refusal of its own.
EVERY_ANSWER = [
    (0, 0), (0, -1), (1, 0), (1, -1), (1, -2), (2, 0), (2, -1), (2, -2), (3, 0), (3, -1), (3, -4), (3, -2),
    (4, 0), (4, -1), (4, -4), (5, 0), (5, -4), (5, -2), (6, 0), (6, -4), (6, -3), (7, 0), (8, 0), (8, -4),
]


class Telling:
    """The document told a second time, call by call, with sets of Python's own."""

    def __init__(self):
        self.make = None

    def answer(self, call):
        if call[0] == 0:
            return self.answer_start(*call[1:])
        if self.make is None:
            return [-5]
        named = (self.key, self.cylinder, self.door, self.fit, self.hang, self.unhang, self.counts, self.opens)
        return named[call[0] - 1](*call[1:])

    def answer_start(self, n, depths, step, pin, kinds, run, rooms):
        fine = (n in range(1, 8) and depths in range(2, 11) and step in range(1, depths) and pin in range(1, depths)
                and kinds in range(1, min(n, depths) + 1) and run in range(1, n + 1) and rooms in range(1, 25))
        if not fine:
            return [-1]
        self.make = (n, depths, pin)
        self.rooms = range(rooms)
        self.told_keys, self.cylinders, self.doors, self.hooks = [], [], [], {}
        return [0]

    def key(self, grooves, many, *cuts):
        n, depths, pin = self.make
        if many != n or max(cuts) >= depths or grooves.bit_length() > 26:
            return [-1]
        return self.put(self.told_keys, 8, (grooves, cuts))

    def cylinder(self, wards, many, *sets):
        n, depths, pin = self.make
        chambers = [[depth for depth in range(32) if one & 1 << depth] for one in sets]
        if many != n or wards.bit_length() > 26:
            return [-1]
        for chamber in chambers:
            close = [1 for low in chamber for high in chamber if low < high < low + pin]
            if close or not 1 <= len(chamber) <= 6 or chamber[-1] >= depths:
                return [-1]
        return self.put(self.cylinders, 16, (wards, chambers))

    def door(self, a, b, *told):
        sides = [told[:2], told[2:]]
        if not all(self.tells(side) for side in sides):
            return [-1]
        if not {a, b} <= set(self.rooms) or self.lacks(sides[0]) or self.lacks(sides[1]):
            return [-4]
        return self.put(self.doors, 24, sides)

    def fit(self, side, *told):
        if not self.tells(told):
            return [-1]
        if side // 2 >= len(self.doors) or self.lacks(told):
            return [-4]
        self.doors[side // 2][side % 2] = told
        return [0]

    def hang(self, number, room):
        if number >= len(self.told_keys) or room not in self.rooms:
            return [-4]
        if len(set(self.hooks) | {number}) > 4:
            return [-2]
        self.hooks[number] = room
        return [0]

    def unhang(self, number):
        if number >= len(self.told_keys):
            return [-4]
        return [-3] if self.hooks.pop(number, None) is None else [0]

    def counts(self):
        return [0, len(self.told_keys), len(self.cylinders), len(self.doors), len(self.rooms)]

    def opens(self, side):
        if side // 2 >= len(self.doors):
            return [-4]
        what, which = self.doors[side // 2][side % 2]
        if what != 1:
            return [0]
        wards, chambers = self.cylinders[which]
        turning = [number for number, (grooves, cuts) in enumerate(self.told_keys)
                   if not wards & ~grooves and all(cut in chamber for cut, chamber in zip(cuts, chambers))]
        return [len(turning)] + turning

    def put(self, shelf, most, thing):
        if len(shelf) >= most:
            return [-2]
        shelf.append(thing)
        return [len(shelf) - 1]

    def tells(self, side):
        return side[0] == 1 or side in ((0, 0), (2, 0))

    def lacks(self, side):
        return side[0] == 1 and side[1] >= len(self.cylinders)


class Chance:
    """Calls by chance, mostly near what is taken."""

    def __init__(self, seed):
        self.source = random.Random(seed)
        self.n = self.source.randint(1, 3)
        self.depths = self.source.randint(2, 5)
        self.begins_again = True

    def near(self, most):
        return self.source.choice([self.source.randint(0, most)] * 9 + [self.source.choice([most + 1, GREATEST])])

    def row(self, most):
        many = self.source.choice([self.n] * 9 + [self.source.randint(0, 16)])
        return [self.near(most) for place in range(many)]

    def what(self):
        return self.source.choice([FREE, SHUT] + [locked(self.near(5))] * 4 + [(self.near(2), self.near(1))])

    def letters(self):
        return self.source.choice([0, 0, 1, 2, 3, LETTERS - 1, LETTERS])

    def begin(self):
        self.n = self.source.randint(1, 3)
        self.depths = self.source.randint(2, 5)
        smaller = min(self.n, self.depths)
        pin = self.source.choice([1, 1, 2])
        return start(self.n, self.depths, self.near(self.depths - 1), pin, self.near(smaller), self.near(self.n), 5)

    def call(self):
        sort = self.source.choice("kkkcccddddfffhhhuunoooo" + "s" * self.begins_again)
        made = {
            "s": self.begin,
            "k": lambda: key(self.letters(), self.row(self.depths - 1)),
            "c": lambda: cylinder(self.letters(), self.row(2 ** self.depths - 1)),
            "d": lambda: door(self.near(4), self.near(4), self.what(), self.what()),
            "f": lambda: fit(self.near(9), self.what()),
            "h": lambda: hang(self.near(6), self.near(4)),
            "u": lambda: unhang(self.near(6)),
            "n": counts,
            "o": lambda: opens(self.near(9)),
        }
        return made[sort]()


class ByChance(unittest.TestCase):
    def test_long_lists_of_calls(self):
        answered = set()
        for seed in range(90):
            chance = Chance(seed)
            chance.begins_again = seed % 3 != 0
            calls = [start(chance.n, chance.depths, 1, 1, 1, 1, 5)] + [chance.call() for place in range(399)]
            telling = Telling()
            expected = [telling.answer(call) for call in calls]
            given = taken_apart(answers(joined(calls)))
            self.assertEqual(given, expected, seed)
            answered |= {(call[0], min(answer[0], 0)) for call, answer in zip(calls, given)}
        # Chance must have come to every refusal, or the lists above say less than they seem to.
        self.assertEqual(answered, set(EVERY_ANSWER))


if __name__ == "__main__":
    unittest.main()
