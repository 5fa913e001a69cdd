"""Doors and their sides: the calls door, fit, opens, counts."""

import unittest

from desk_calls import (
    FREE, GREATEST, SHUT, ask, bits, counts, cylinder, door, fit, hang, key, last, locked, looks, opens, start,
)

# Of these keys cylinder 0 is turned by 0 and 2, cylinder 1 by 1, cylinder 2 by none.
TOLD = [
    start(),
    key(0, [0, 0, 0]), key(1, [2, 2, 2]), key(0, [0, 0, 4]),
    cylinder(0, [1, 1, bits(0, 4)]), cylinder(1, [bits(0, 2), bits(2), bits(2, 4)]), cylinder(2, [1, 1, 1]),
]
NO_SIDES = ((0, 1), (0, GREATEST), (2, 1), (2, GREATEST), (3, 0), (3, 1), (GREATEST, 0), (GREATEST, GREATEST))


class Doors(unittest.TestCase):
    def test_numbers_rise_from_0(self):
        given = ask(*TOLD, door(0, 1), door(3, 2, locked(2), SHUT), door(0, 1), counts())
        self.assertEqual(given[7:], [[0], [1], [2], [0, 3, 3, 3, 4]])

    def test_before_a_house(self):
        self.assertEqual(ask(door(0, 1)), [[-5]])
        self.assertEqual(ask(door(9, 9, (7, 7), (7, 7))), [[-5]])

    def test_from_a_room_to_itself(self):
        given = ask(*TOLD, door(2, 2, locked(0), locked(1)), opens(0), opens(1))
        self.assertEqual(given[7:], [[0], [2, 0, 2], [1, 1]])

    def test_every_two_numbers_that_tell_a_side(self):
        for first in (FREE, SHUT, locked(0), locked(2)):
            for second in (FREE, SHUT, locked(0), locked(2)):
                self.assertEqual(last(*TOLD, door(0, 1, first, second)), [0], (first, second))

    def test_two_numbers_that_tell_no_side(self):
        for wrong in NO_SIDES:
            self.assertEqual(last(*TOLD, door(0, 1, wrong, FREE)), [-1], wrong)
            self.assertEqual(last(*TOLD, door(0, 1, FREE, wrong)), [-1], wrong)
            self.assertEqual(last(*TOLD, door(0, 1, wrong, wrong)), [-1], wrong)

    def test_no_such_room(self):
        self.assertEqual(last(*TOLD, door(3, 3)), [0])
        for a, b in ((4, 0), (0, 4), (4, 4), (GREATEST, 0), (0, GREATEST)):
            self.assertEqual(last(*TOLD, door(a, b)), [-4], (a, b))
        self.assertEqual(last(start(rooms=24), door(23, 0)), [0])
        self.assertEqual(last(start(rooms=24), door(0, 24)), [-4])

    def test_no_such_cylinder(self):
        for wrong in (locked(3), locked(GREATEST)):
            self.assertEqual(last(*TOLD, door(0, 1, wrong, FREE)), [-4], wrong)
            self.assertEqual(last(*TOLD, door(0, 1, FREE, wrong)), [-4], wrong)
        self.assertEqual(last(start(), door(0, 1, locked(0), FREE)), [-4])

    def test_the_24th_and_the_25th(self):
        full = TOLD + [door(0, 1)] * 24
        self.assertEqual(last(*full), [23])
        self.assertEqual(last(*full, door(0, 1)), [-2])

    def test_the_first_refusal_told_is_answered(self):
        full = TOLD + [door(0, 1)] * 24
        for house in (TOLD, full):
            self.assertEqual(last(*house, door(4, 0, (3, 0), FREE)), [-1])
            self.assertEqual(last(*house, door(0, 4, FREE, (0, 1))), [-1])
            self.assertEqual(last(*house, door(0, 1, locked(9), (2, 2))), [-1])
            self.assertEqual(last(*house, door(4, 0, (3, 0), locked(9))), [-1])
        self.assertEqual(last(*full, door(0, 1, (3, 0), FREE)), [-1])
        self.assertEqual(last(*full, door(4, 0)), [-4])
        self.assertEqual(last(*full, door(0, 1, FREE, locked(3))), [-4])


class Fitting(unittest.TestCase):
    house = TOLD + [door(0, 1, locked(0), FREE), door(1, 2, SHUT, locked(1))]

    def sides(self, *calls):
        return ask(*self.house, *calls, opens(0), opens(1), opens(2), opens(3))[-4:]

    def test_as_told(self):
        self.assertEqual(self.sides(), [[2, 0, 2], [0], [0], [1, 1]])

    def test_a_side_is_so_from_now_on_and_no_other_changes(self):
        for what, told in ((FREE, [0]), (SHUT, [0]), (locked(0), [2, 0, 2]), (locked(1), [1, 1]), (locked(2), [0])):
            for side in range(4):
                self.assertEqual(last(*self.house, fit(side, what)), [0])
                expected = [[2, 0, 2], [0], [0], [1, 1]]
                expected[side] = told
                self.assertEqual(self.sides(fit(side, what)), expected, (side, what))

    def test_fitted_again(self):
        self.assertEqual(self.sides(fit(0, FREE), fit(0, locked(1)), fit(3, locked(0))), [[1, 1], [0], [0], [2, 0, 2]])

    def test_counts_stay(self):
        self.assertEqual(last(*self.house, fit(0, SHUT), counts()), [0, 3, 3, 2, 4])

    def test_before_a_house(self):
        self.assertEqual(ask(fit(0, FREE)), [[-5]])
        self.assertEqual(ask(fit(GREATEST, (3, 3))), [[-5]])

    def test_two_numbers_that_tell_no_side(self):
        for wrong in NO_SIDES:
            self.assertEqual(last(*self.house, fit(0, wrong)), [-1], wrong)

    def test_no_such_side(self):
        for side in (4, 5, GREATEST):
            self.assertEqual(last(*self.house, fit(side, FREE)), [-4], side)
        self.assertEqual(last(start(), fit(0, FREE)), [-4])
        full = [start()] + [door(0, 1)] * 24
        self.assertEqual(last(*full, fit(47, SHUT)), [0])
        self.assertEqual(last(*full, fit(48, SHUT)), [-4])

    def test_no_such_cylinder(self):
        for wrong in (locked(3), locked(GREATEST)):
            self.assertEqual(last(*self.house, fit(0, wrong)), [-4], wrong)

    def test_the_first_refusal_told_is_answered(self):
        self.assertEqual(last(*self.house, fit(4, (0, 1))), [-1])
        self.assertEqual(last(*self.house, fit(GREATEST, (3, GREATEST))), [-1])
        self.assertEqual(last(*self.house, fit(4, locked(3))), [-4])


class Opening(unittest.TestCase):
    def test_keys_rising(self):
        house = TOLD + [door(0, 1, locked(0), locked(1)), door(0, 1, locked(2), FREE), door(0, 1, SHUT, FREE)]
        self.assertEqual(ask(*house, *[opens(side) for side in range(6)])[-6:], [[2, 0, 2], [1, 1], [0], [0], [0], [0]])

    def test_keys_told_later_count(self):
        given = ask(start(), cylinder(0, [1, 1, 1]), door(0, 1, FREE, locked(0)), opens(1), key(0, [0, 0, 0]), opens(1))
        self.assertEqual(given[3:], [[0], [0], [1, 0]])

    def test_all_8_keys(self):
        given = last(start(), *[key(0, [0, 0, 0])] * 8, cylinder(0, [1, 1, 1]), door(0, 0, locked(0), FREE), opens(0))
        self.assertEqual(given, [8, 0, 1, 2, 3, 4, 5, 6, 7])

    def test_a_key_that_hangs_turns_as_before(self):
        self.assertEqual(last(*TOLD, door(0, 1, locked(0), FREE), hang(0, 3), opens(0)), [2, 0, 2])

    def test_before_a_house(self):
        self.assertEqual(ask(opens(0), opens(GREATEST)), [[-5], [-5]])

    def test_no_such_side(self):
        self.assertEqual(last(*TOLD, opens(0)), [-4])
        house = TOLD + [door(0, 1)]
        self.assertEqual(last(*house, opens(1)), [0])
        self.assertEqual(last(*house, opens(2)), [-4])
        self.assertEqual(last(*house, opens(GREATEST)), [-4])


class Counting(unittest.TestCase):
    def test_ordinary(self):
        self.assertEqual(last(*TOLD, door(0, 1), counts()), [0, 3, 3, 1, 4])

    def test_the_most_of_all(self):
        full = [start(rooms=24)] + [key(0, [0, 0, 0])] * 8 + [cylinder(0, [1, 1, 1])] * 16 + [door(0, 1)] * 24
        self.assertEqual(last(*full, counts()), [0, 8, 16, 24, 24])

    def test_before_a_house(self):
        self.assertEqual(ask(counts()), [[-5]])

    def test_asking_changes_nothing(self):
        house = TOLD + [door(0, 1, locked(0), FREE), hang(1, 1)]
        self.assertEqual(looks(*house, counts(), opens(0), opens(9)), looks(*house))


if __name__ == "__main__":
    unittest.main()
