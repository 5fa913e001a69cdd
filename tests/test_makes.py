"""Makes, keys, cylinders: the calls open, key, cylinder, and when a key turns a cylinder."""

import unittest

from desk_calls import (
    FREE, GREATEST, LETTERS, ask, bits, counts, cylinder, door, key, last, locked, opens, start,
)


class Starting(unittest.TestCase):
    def taken(self, **numbers):
        self.assertEqual(ask(start(**numbers)), [[0]], numbers)

    def refused(self, **numbers):
        self.assertEqual(ask(start(**numbers), counts()), [[-1], [-5]], numbers)

    def test_ordinary(self):
        self.assertEqual(ask(start(), counts()), [[0], [0, 0, 0, 0, 4]])

    def test_chambers(self):
        self.refused(n=0, kinds=1, run=1)
        self.refused(n=0, kinds=0, run=0)
        self.taken(n=1, kinds=1, run=1)
        self.taken(n=7)
        self.refused(n=8)
        self.refused(n=GREATEST)

    def test_depths(self):
        self.refused(depths=0, step=1, pin=1, kinds=1)
        self.refused(depths=1, step=1, pin=1, kinds=1)
        self.refused(depths=1, step=0, pin=0, kinds=1)
        self.taken(depths=2, step=1, pin=1)
        self.taken(depths=10)
        self.refused(depths=11)
        self.refused(depths=GREATEST)

    def test_step(self):
        self.refused(step=0)
        self.taken(step=1)
        self.taken(step=4)
        self.refused(step=5)
        self.refused(step=GREATEST)
        self.taken(depths=10, step=9)
        self.refused(depths=10, step=10)

    def test_pin(self):
        self.refused(pin=0)
        self.taken(pin=1)
        self.taken(pin=4)
        self.refused(pin=5)
        self.refused(pin=GREATEST)
        self.taken(depths=10, pin=9)
        self.refused(depths=10, pin=10)

    def test_kinds_with_fewer_chambers_than_depths(self):
        self.refused(n=3, depths=5, kinds=0)
        self.taken(n=3, depths=5, kinds=1)
        self.taken(n=3, depths=5, kinds=3)
        self.refused(n=3, depths=5, kinds=4)
        self.refused(kinds=GREATEST)

    def test_kinds_with_fewer_depths_than_chambers(self):
        self.taken(n=7, depths=4, kinds=4)
        self.refused(n=7, depths=4, kinds=5)

    def test_run(self):
        self.refused(run=0)
        self.taken(run=1)
        self.taken(run=3)
        self.refused(run=4)
        self.refused(run=GREATEST)
        self.taken(n=7, run=7)
        self.refused(n=7, run=8)

    def test_rooms(self):
        self.refused(rooms=0)
        self.taken(rooms=1)
        self.taken(rooms=24)
        self.refused(rooms=25)
        self.refused(rooms=GREATEST)
        self.assertEqual(last(start(rooms=24), counts()), [0, 0, 0, 0, 24])

    def test_no_house_stays_none_behind_a_refusal(self):
        self.assertEqual(ask(start(n=9), key(0, [0]), start(), counts()), [[-1], [-5], [0], [0, 0, 0, 0, 4]])


class Keys(unittest.TestCase):
    def test_numbers_rise_from_0(self):
        given = ask(start(), key(0, [0, 1, 2]), key(5, [4, 4, 4]), key(0, [0, 1, 2]), counts())
        self.assertEqual(given, [[0], [0], [1], [2], [0, 3, 0, 0, 4]])

    def test_before_a_house(self):
        self.assertEqual(ask(key(0, [0, 1, 2])), [[-5]])
        self.assertEqual(ask(key(LETTERS, [])), [[-5]])

    def test_how_many_cuts(self):
        for cuts in ([], [0], [0, 0], [0, 0, 0, 0], [0] * 16):
            self.assertEqual(last(start(), key(0, cuts)), [-1], cuts)
        self.assertEqual(last(start(n=1, kinds=1, run=1), key(0, [0])), [0])
        self.assertEqual(last(start(n=7), key(0, [0] * 7)), [0])
        self.assertEqual(last(start(n=7), key(0, [0] * 6)), [-1])
        self.assertEqual(last(start(n=7), key(0, [0] * 8)), [-1])

    def test_cuts_are_depths(self):
        self.assertEqual(last(start(), key(0, [4, 4, 4])), [0])
        for cuts in ([5, 0, 0], [0, 5, 0], [0, 0, 5], [0, 0, GREATEST]):
            self.assertEqual(last(start(), key(0, cuts)), [-1], cuts)
        self.assertEqual(last(start(depths=10), key(0, [9, 9, 9])), [0])
        self.assertEqual(last(start(depths=10), key(0, [9, 9, 10])), [-1])
        self.assertEqual(last(start(depths=2, step=1, pin=1), key(0, [1, 0, 1])), [0])
        self.assertEqual(last(start(depths=2, step=1, pin=1), key(0, [1, 0, 2])), [-1])

    def test_grooves(self):
        self.assertEqual(last(start(), key(LETTERS - 1, [0, 1, 2])), [0])
        self.assertEqual(last(start(), key(LETTERS, [0, 1, 2])), [-1])
        self.assertEqual(last(start(), key(GREATEST, [0, 1, 2])), [-1])

    def test_step_kinds_and_run_are_not_asked_for(self):
        self.assertEqual(last(start(step=1, kinds=1, run=1), key(0, [0, 4, 0])), [0])
        self.assertEqual(last(start(step=4, kinds=3, run=1), key(0, [2, 2, 2])), [0])

    def test_the_8th_and_the_9th(self):
        told = [start()] + [key(0, [0, 1, 2])] * 8
        self.assertEqual(last(*told), [7])
        self.assertEqual(last(*told, key(0, [0, 1, 2])), [-2])

    def test_no_key_of_the_make_is_told_before_too_many(self):
        told = [start()] + [key(0, [0, 1, 2])] * 8
        for wrong in (key(0, [0, 1]), key(0, [0, 1, 5]), key(LETTERS, [0, 1, 2])):
            self.assertEqual(last(*told, wrong), [-1], wrong)


class Cylinders(unittest.TestCase):
    ordinary = cylinder(3, [bits(0), bits(1, 3), bits(0, 2, 4)])

    def of_one_chamber(self, depth_set, depths, pin):
        return last(start(n=1, depths=depths, step=1, pin=pin, kinds=1, run=1), cylinder(0, [depth_set]))

    def test_numbers_rise_from_0(self):
        given = ask(start(), self.ordinary, self.ordinary, cylinder(0, [1, 1, 1]), counts())
        self.assertEqual(given, [[0], [0], [1], [2], [0, 0, 3, 0, 4]])

    def test_before_a_house(self):
        self.assertEqual(ask(self.ordinary), [[-5]])
        self.assertEqual(ask(cylinder(LETTERS, [])), [[-5]])

    def test_how_many_sets(self):
        for sets in ([], [1], [1, 1], [1, 1, 1, 1], [1] * 16):
            self.assertEqual(last(start(), cylinder(0, sets)), [-1], sets)
        self.assertEqual(last(start(n=7), cylinder(0, [1] * 7)), [0])
        self.assertEqual(last(start(n=7), cylinder(0, [1] * 6)), [-1])
        self.assertEqual(last(start(n=7), cylinder(0, [1] * 8)), [-1])

    def test_how_many_depths_in_a_chamber(self):
        self.assertEqual(self.of_one_chamber(0, 10, 1), [-1])
        self.assertEqual(self.of_one_chamber(1, 10, 1), [0])
        self.assertEqual(self.of_one_chamber(bits(0, 1, 2, 3, 4, 5), 10, 1), [0])
        self.assertEqual(self.of_one_chamber(bits(0, 1, 2, 5, 7, 9), 10, 1), [0])
        self.assertEqual(self.of_one_chamber(bits(0, 1, 2, 3, 4, 5, 6), 10, 1), [-1])
        self.assertEqual(self.of_one_chamber(1023, 10, 1), [-1])

    def test_depths_below_the_makes(self):
        self.assertEqual(self.of_one_chamber(bits(4), 5, 1), [0])
        self.assertEqual(self.of_one_chamber(bits(5), 5, 1), [-1])
        self.assertEqual(self.of_one_chamber(bits(0, 5), 5, 1), [-1])
        self.assertEqual(self.of_one_chamber(bits(9), 10, 1), [0])
        self.assertEqual(self.of_one_chamber(bits(10), 10, 1), [-1])
        self.assertEqual(self.of_one_chamber(bits(0, 31), 10, 1), [-1])
        self.assertEqual(self.of_one_chamber(bits(1), 2, 1), [0])
        self.assertEqual(self.of_one_chamber(bits(2), 2, 1), [-1])
        self.assertEqual(self.of_one_chamber(GREATEST, 10, 1), [-1])

    def test_depths_pin_apart(self):
        for pin in range(2, 10):
            self.assertEqual(self.of_one_chamber(bits(0, pin), 10, pin), [0], pin)
            self.assertEqual(self.of_one_chamber(bits(0, pin - 1), 10, pin), [-1], pin)
        self.assertEqual(self.of_one_chamber(bits(0, 3, 6, 9), 10, 3), [0])
        self.assertEqual(self.of_one_chamber(bits(0, 3, 6, 8), 10, 3), [-1])
        self.assertEqual(self.of_one_chamber(bits(0, 2, 6, 9), 10, 3), [-1])
        self.assertEqual(self.of_one_chamber(bits(9), 10, 9), [0])

    def test_each_chamber_is_looked_at(self):
        for wrong in (0, bits(0, 1), bits(5), GREATEST):
            for place in range(3):
                sets = [1, 1, 1]
                sets[place] = wrong
                self.assertEqual(last(start(), cylinder(0, sets)), [-1], sets)

    def test_wards(self):
        self.assertEqual(last(start(), cylinder(LETTERS - 1, [1, 1, 1])), [0])
        self.assertEqual(last(start(), cylinder(LETTERS, [1, 1, 1])), [-1])
        self.assertEqual(last(start(), cylinder(GREATEST, [1, 1, 1])), [-1])

    def test_the_16th_and_the_17th(self):
        told = [start()] + [self.ordinary] * 16
        self.assertEqual(last(*told), [15])
        self.assertEqual(last(*told, self.ordinary), [-2])

    def test_none_of_the_make_is_told_before_too_many(self):
        told = [start()] + [self.ordinary] * 16
        for wrong in (cylinder(0, [1]), cylinder(0, [0, 1, 1]), cylinder(LETTERS, [1, 1, 1])):
            self.assertEqual(last(*told, wrong), [-1], wrong)


class Turning(unittest.TestCase):
    def turns(self, one_key, one_cylinder, **make):
        given = ask(start(**make), one_key, one_cylinder, door(0, 1, locked(0), FREE), opens(0))
        self.assertEqual(given[:4], [[0]] * 4)
        self.assertIn(given[4], ([0], [1, 0]))
        return given[4] == [1, 0]

    def test_a_groove_for_each_ward(self):
        sets = [1, 1, 1]
        cuts = [0, 0, 0]
        for grooves, wards, told in (
            (0, 0, True), (5, 0, True), (5, 5, True), (7, 5, True), (4, 5, False), (2, 5, False), (0, 1, False),
            (LETTERS - 1, LETTERS - 1, True), (LETTERS - 2, LETTERS - 1, False), (LETTERS // 2, LETTERS // 2, True),
            (LETTERS // 2 - 1, LETTERS // 2, False), (LETTERS - 1, LETTERS // 2, True),
        ):
            self.assertEqual(self.turns(key(grooves, cuts), cylinder(wards, sets)), told, (grooves, wards))

    def test_each_cut_is_one_of_its_chambers(self):
        sets = [bits(0, 2), bits(1, 3), bits(4)]
        for cuts, told in (
            ([0, 1, 4], True), ([2, 3, 4], True), ([0, 3, 4], True), ([2, 1, 4], True),
            ([1, 1, 4], False), ([0, 2, 4], False), ([0, 1, 3], False), ([4, 3, 0], False), ([3, 0, 4], False),
        ):
            self.assertEqual(self.turns(key(0, cuts), cylinder(0, sets)), told, cuts)

    def test_the_deepest_cut_of_the_widest_make(self):
        wide = {"n": 7, "depths": 10, "pin": 9}
        sets = [bits(0, 9)] * 7
        self.assertTrue(self.turns(key(0, [9, 0, 9, 0, 9, 0, 9]), cylinder(0, sets), **wide))
        self.assertFalse(self.turns(key(0, [9, 0, 9, 0, 9, 0, 8]), cylinder(0, sets), **wide))


if __name__ == "__main__":
    unittest.main()
