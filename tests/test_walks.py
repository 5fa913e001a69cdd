"""Walks with a bunch: the calls leads, way, through, traps, shut, parts."""

import unittest

from desk_calls import (
    FREE, SHUT, answered, ask, bits, door, fit, hang, key, keyed, leads, locked, looks, parts, shut, start, through,
    traps, way,
)

# Cylinder 0 is turned by key 0, cylinder 1 by keys 1 and 2, cylinder 2 by none.
MIXED = keyed(6, 3, [0], [1, 2], []) + [
    door(0, 1, locked(0), FREE),
    door(1, 2, locked(1), SHUT),
    door(3, 3, FREE, locked(0)),
    door(4, 0, FREE, locked(2)),
    door(2, 5, SHUT, SHUT),
]
# From room 0 to room 3 over room 2 (from there by door 3 or door 6), over room 1, and a longer way over room 4.
SEVERAL = keyed(5, 1, [0]) + [
    door(0, 2), door(0, 1), door(1, 3), door(2, 3), door(0, 4), door(4, 2), door(2, 3),
]


class Leading(unittest.TestCase):
    def test_free_locked_and_shut_sides(self):
        for bunch, r, rooms in (
            ([], 0, [0]), ([0], 0, [0, 1]), ([0, 1], 0, [0, 1, 2]), ([0, 2], 0, [0, 1, 2]), ([1, 2], 0, [0]),
            ([], 1, [0, 1]), ([1], 1, [0, 1, 2]), ([0, 1, 2], 2, [2]), ([], 3, [3]), ([0], 3, [3]),
            ([], 4, [0, 4]), ([0], 4, [0, 1, 4]), ([0, 1, 2], 4, [0, 1, 2, 4]), ([0, 1, 2], 5, [5]),
        ):
            self.assertEqual(answered(MIXED, leads(bits(*bunch), r)), [[len(rooms)] + rooms], (bunch, r))

    def test_a_house_without_doors(self):
        self.assertEqual(answered([start(rooms=24)], *[leads(0, r) for r in range(24)]), [[1, r] for r in range(24)])
        self.assertEqual(answered([start(rooms=1)], leads(0, 0)), [[1, 0]])

    def test_side_0_is_passed_from_a_and_side_1_from_b(self):
        house = keyed(3, 1, [0]) + [door(2, 1, locked(0), SHUT), door(1, 0, SHUT, FREE)]
        self.assertEqual(answered(house, leads(1, 2), leads(0, 2), leads(1, 1), leads(1, 0)),
                         [[2, 1, 2], [1, 2], [1, 1], [2, 0, 1]])

    def test_one_of_several_keys_is_enough(self):
        house = keyed(2, 3, [0, 2]) + [door(0, 1, locked(0), SHUT)]
        self.assertEqual(answered(house, *[leads(bunch, 0) for bunch in range(8)]),
                         [[1, 0], [2, 0, 1], [1, 0], [2, 0, 1], [2, 0, 1], [2, 0, 1], [2, 0, 1], [2, 0, 1]])

    def test_several_doors_between_two_rooms(self):
        house = keyed(2, 2, [0], [1]) + [door(0, 1, locked(0), SHUT), door(0, 1, locked(1), SHUT),
                                             door(1, 0, SHUT, SHUT)]
        self.assertEqual(answered(house, leads(0, 0), leads(1, 0), leads(2, 0), leads(3, 1)),
                         [[1, 0], [2, 0, 1], [2, 0, 1], [1, 1]])

    def test_a_side_fitted_anew_counts_from_then_on(self):
        house = MIXED + [fit(0, FREE), fit(2, SHUT), fit(3, locked(0)), fit(8, locked(1))]
        self.assertEqual(answered(house, leads(0, 0), leads(7, 1), leads(1, 2), leads(2, 2)),
                         [[2, 0, 1], [2, 0, 1], [3, 0, 1, 2], [2, 2, 5]])

    def test_a_key_told_later_counts(self):
        house = keyed(2, 0, [0]) + [door(0, 1, locked(0), FREE)]
        self.assertEqual(ask(*house, leads(0, 0), leads(1, 0), key(0, [0]), leads(0, 0), leads(1, 0))[-5:],
                         [[1, 0], [-1], [0], [1, 0], [2, 0, 1]])


class FirstWalk(unittest.TestCase):
    def test_as_many_sides_the_first_by_their_numbers(self):
        self.assertEqual(answered(SEVERAL, way(0, 0, 3)), [[2, 0, 6]])
        self.assertEqual(answered(SEVERAL + [fit(6, SHUT)], way(0, 0, 3)), [[2, 0, 12]])
        self.assertEqual(answered(SEVERAL + [fit(6, SHUT), fit(12, SHUT)], way(0, 0, 3)), [[2, 2, 4]])

    def test_the_first_that_differs_counts_not_the_least_or_the_last(self):
        # By side 3 and then side 12, or by side 4 and then side 0: the least side is in the second.
        house = keyed(4, 0) + [door(2, 3), door(1, 0), door(0, 2), door(1, 1), door(3, 3), door(0, 0), door(1, 3)]
        self.assertEqual(answered(house, way(0, 0, 3)), [[2, 3, 12]])

    def test_fewer_sides_come_first(self):
        house = keyed(4, 0) + [door(0, 1), door(1, 2), door(2, 3), door(0, 2)]
        self.assertEqual(answered(house, way(0, 0, 2), way(0, 0, 3), way(0, 3, 0)), [[1, 6], [2, 6, 4], [2, 5, 7]])

    def test_several_doors_between_two_rooms(self):
        house = keyed(2, 1, [0]) + [door(1, 0, SHUT, locked(0)), door(0, 1), door(1, 0)]
        self.assertEqual(answered(house, way(0, 0, 1), way(1, 0, 1), way(0, 1, 0)), [[1, 2], [1, 1], [1, 3]])

    def test_sides_are_told_in_the_walks_order(self):
        house = keyed(4, 0) + [door(2, 3), door(1, 2), door(1, 0)]
        self.assertEqual(answered(house, way(0, 0, 3), way(0, 3, 0)), [[3, 5, 2, 0], [3, 1, 3, 4]])

    def test_with_keys_the_walk_is_another(self):
        house = keyed(3, 2, [0], [1]) + [door(0, 1, locked(0)), door(1, 2, locked(1)), door(0, 2, locked(1)),
                                         door(0, 1), door(1, 2)]
        self.assertEqual(answered(house, *[way(bunch, 0, 2) for bunch in range(4)]),
                         [[2, 6, 8], [2, 0, 8], [1, 4], [1, 4]])

    def test_a_door_from_a_room_to_itself_is_in_no_first_walk(self):
        house = keyed(2, 0) + [door(0, 0), door(0, 1), door(1, 1)]
        self.assertEqual(answered(house, way(0, 0, 1), way(0, 1, 0), way(0, 0, 0)), [[1, 2], [1, 3], [0]])

    def test_from_a_room_to_itself(self):
        self.assertEqual(answered(MIXED, *[way(7, r, r) for r in range(6)]), [[0]] * 6)
        self.assertEqual(answered(MIXED, *[way(0, r, r) for r in range(6)]), [[0]] * 6)

    def test_there_is_none(self):
        self.assertEqual(answered(MIXED, way(0, 0, 1), way(7, 2, 1), way(7, 0, 5), way(1, 0, 2), way(7, 0, 4)),
                         [[-3]] * 5)


class ThroughEveryWalk(unittest.TestCase):
    def test_all_sides_of_a_single_way_rising(self):
        house = keyed(4, 0) + [door(2, 3), door(1, 2), door(1, 0)]
        self.assertEqual(answered(house, through(0, 0, 3), through(0, 3, 0), through(0, 2, 1)),
                         [[3, 0, 2, 5], [3, 1, 3, 4], [1, 3]])

    def test_none_where_there_is_a_second_way(self):
        house = keyed(3, 0) + [door(0, 1), door(1, 2), door(0, 2)]
        self.assertEqual(answered(house, through(0, 0, 2), through(0, 0, 1), through(0, 1, 2)), [[0]] * 3)
        self.assertEqual(answered(keyed(2, 0) + [door(0, 1), door(1, 0)], through(0, 0, 1)), [[0]])

    def test_a_second_way_that_the_bunch_does_not_pass_is_none(self):
        house = keyed(2, 1, [0]) + [door(0, 1), door(0, 1, locked(0)), door(0, 1, SHUT)]
        self.assertEqual(answered(house, through(0, 0, 1), through(1, 0, 1), through(0, 1, 0)), [[1, 0], [0], [0]])

    def test_a_longer_second_way_counts(self):
        house = keyed(5, 0) + [door(0, 1), door(0, 2), door(2, 3), door(3, 1), door(1, 4)]
        self.assertEqual(answered(house, through(0, 0, 4), through(0, 4, 0), through(0, 0, 1)), [[1, 8], [1, 9], [0]])

    def test_a_part_of_the_way_that_every_walk_passes(self):
        # Two ways from 0 to 1, one from 1 to 2, two from 2 to 3.
        house = keyed(4, 0) + [door(0, 1), door(2, 3), door(2, 1), door(3, 2), door(0, 1)]
        self.assertEqual(answered(house, through(0, 0, 3), way(0, 0, 3)), [[1, 5], [3, 0, 5, 2]])

    def test_a_door_from_a_room_to_itself(self):
        house = keyed(2, 0) + [door(0, 0), door(0, 1), door(1, 1)]
        self.assertEqual(answered(house, through(0, 0, 1), through(0, 0, 0)), [[1, 2], [0]])

    def test_from_a_room_to_itself(self):
        self.assertEqual(answered(MIXED, *[through(7, r, r) for r in range(6)]), [[0]] * 6)

    def test_it_does_not_lead_there(self):
        self.assertEqual(answered(MIXED, through(0, 0, 1), through(7, 2, 1), through(7, 0, 5)), [[-3]] * 3)


class Trapping(unittest.TestCase):
    def test_free_locked_and_shut_sides(self):
        for bunch, r, sides in (
            ([], 0, []), ([0], 0, []), ([0, 1], 0, [2]), ([1], 0, []), ([], 1, [1]), ([1], 1, [1, 2]), ([0], 1, []),
            ([0, 2], 1, [2]), ([0, 1, 2], 2, []), ([0, 1, 2], 3, []), ([], 4, [6]), ([0, 1], 4, [2, 6]),
        ):
            self.assertEqual(answered(MIXED, traps(bits(*bunch), r)), [[len(sides)] + sides], (bunch, r))

    def test_only_in_rooms_to_which_it_leads(self):
        house = keyed(4, 0) + [door(2, 3, FREE, SHUT), door(0, 1)]
        self.assertEqual(answered(house, traps(0, 0), traps(0, 1), traps(0, 2), traps(0, 3)), [[0], [0], [1, 0], [0]])

    def test_sides_rising_though_their_rooms_are_not_come_to_so(self):
        house = keyed(4, 0) + [door(2, 3, FREE, SHUT), door(1, 2, FREE, SHUT), door(0, 1, FREE, SHUT)]
        self.assertEqual(answered(house, traps(0, 0), traps(0, 1), traps(0, 2)), [[3, 0, 2, 4], [2, 0, 2], [1, 0]])

    def test_back_by_another_way_is_no_trap(self):
        house = keyed(3, 1, [0]) + [door(0, 1, FREE, SHUT), door(1, 2, FREE, SHUT), door(2, 0, locked(0), SHUT)]
        self.assertEqual(answered(house, traps(0, 0), traps(1, 0), traps(0, 2), traps(1, 2)),
                         [[2, 0, 2], [0], [0], [0]])

    def test_back_to_the_room_where_the_side_is_not_to_where_one_began(self):
        # From 0 one comes to 1 and never back; between 1 and 2 one goes to and fro.
        house = keyed(3, 0) + [door(0, 1, FREE, SHUT), door(1, 2)]
        self.assertEqual(answered(house, traps(0, 0), traps(0, 1)), [[1, 0], [0]])

    def test_several_doors_into_the_same_trap(self):
        house = keyed(2, 1, [0]) + [door(0, 1, FREE, SHUT), door(1, 0, SHUT, FREE), door(0, 1, locked(0), SHUT)]
        self.assertEqual(answered(house, traps(0, 0), traps(1, 0), traps(1, 1)), [[2, 0, 3], [3, 0, 3, 4], [0]])

    def test_a_door_from_a_room_to_itself_is_none(self):
        house = keyed(2, 0) + [door(0, 0, FREE, SHUT), door(1, 1)]
        self.assertEqual(answered(house, traps(0, 0), traps(0, 1)), [[0], [0]])


class Shutting(unittest.TestCase):
    def test_free_locked_and_shut_sides(self):
        for bunch, t, rooms in (
            ([], 0, [2, 3, 5]), ([], 1, [0, 2, 3, 4, 5]), ([0], 1, [2, 3, 5]), ([0], 2, [0, 1, 3, 4, 5]),
            ([1], 2, [0, 3, 4, 5]), ([0, 1], 2, [3, 5]), ([0, 1, 2], 3, [0, 1, 2, 4, 5]),
            ([0, 1, 2], 4, [0, 1, 2, 3, 5]), ([0, 1, 2], 5, [0, 1, 2, 3, 4]),
        ):
            self.assertEqual(answered(MIXED, shut(bits(*bunch), t)), [[len(rooms)] + rooms], (bunch, t))

    def test_the_room_itself_is_never_among_them(self):
        self.assertEqual(answered([start(rooms=1)], shut(0, 0)), [[0]])
        self.assertEqual(answered([start(rooms=3)], shut(0, 1)), [[2, 0, 2]])

    def test_to_the_room_and_not_from_it(self):
        house = keyed(3, 0) + [door(0, 1, FREE, SHUT), door(1, 2, FREE, SHUT)]
        self.assertEqual(answered(house, shut(0, 0), shut(0, 1), shut(0, 2)), [[2, 1, 2], [1, 2], [0]])


class Parts(unittest.TestCase):
    def test_free_locked_and_shut_sides(self):
        for bunch, told in (
            ([], [6, 0, 1, 2, 3, 4, 5]), ([0], [5, 0, 0, 2, 3, 4, 5]), ([1], [6, 0, 1, 2, 3, 4, 5]),
            ([0, 1, 2], [5, 0, 0, 2, 3, 4, 5]),
        ):
            self.assertEqual(answered(MIXED, parts(bits(*bunch))), [told], bunch)

    def test_a_ring_is_one_part(self):
        house = keyed(4, 1, [0]) + [door(3, 2, FREE, SHUT), door(2, 1, FREE, SHUT), door(1, 3, locked(0), SHUT)]
        self.assertEqual(answered(house, parts(0), parts(1)), [[4, 0, 1, 2, 3], [2, 0, 1, 1, 1]])

    def test_parts_that_lie_among_one_another(self):
        house = keyed(5, 0) + [door(0, 3), door(1, 4), door(4, 2), door(0, 1, FREE, SHUT)]
        self.assertEqual(answered(house, parts(0)), [[2, 0, 1, 1, 0, 1]])

    def test_no_doors_and_all_in_one(self):
        self.assertEqual(answered([start(rooms=3)], parts(0)), [[3, 0, 1, 2]])
        self.assertEqual(answered([start(rooms=1)], parts(0)), [[1, 0]])
        self.assertEqual(answered(keyed(3, 0) + [door(2, 1), door(1, 0)], parts(0)), [[1, 0, 0, 0]])

    def test_a_door_from_a_room_to_itself(self):
        self.assertEqual(answered(keyed(2, 0) + [door(1, 1), door(0, 0, FREE, SHUT)], parts(0)), [[2, 0, 1]])


class WhatHangs(unittest.TestCase):
    def test_none_of_these_looks_at_it(self):
        questions = [parts(0)] + [asked(0, r) for asked in (leads, traps, shut) for r in range(6)]
        questions += [asked(0, r, t) for asked in (way, through) for r in range(6) for t in range(6)]
        hung = MIXED + [hang(0, 0), hang(1, 1), hang(2, 4)]
        self.assertEqual(answered(hung, *questions), answered(MIXED, *questions))

    def test_a_key_of_the_bunch_may_hang(self):
        self.assertEqual(answered(MIXED + [hang(0, 5)], leads(1, 0), way(1, 0, 1)), [[2, 0, 1], [1, 0]])

    def test_asking_changes_nothing(self):
        house = MIXED + [hang(0, 5), hang(1, 1)]
        questions = [leads(7, 0), way(7, 0, 2), through(7, 0, 2), traps(7, 0), shut(7, 2), parts(7)]
        self.assertEqual(looks(*house, *questions), looks(*house))


if __name__ == "__main__":
    unittest.main()
