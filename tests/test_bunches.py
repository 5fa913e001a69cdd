"""The smallest bunch and the keys that are needed: the calls small and needed."""

import unittest

from desk_calls import FREE, SHUT, answered, bits, door, fit, hang, keyed, locked, looks, needed, small, start

# Cylinder c is turned by key c alone.
OWN = [[0], [1], [2], [3], [4], [5], [6], [7]]
# From 0 to 1 with keys 0 and 3 by room 2, with keys 1 and 2 by room 3, or with keys 4, 5 and 6 over rooms 4 and 5.
THREE_WAYS = keyed(6, 7, *OWN) + [
    door(0, 2, locked(3), FREE), door(2, 1, locked(0), FREE),
    door(0, 3, locked(1), FREE), door(3, 1, locked(2), FREE),
    door(0, 4, locked(4), FREE), door(4, 5, locked(5), FREE), door(5, 1, locked(6), FREE),
]


class Smallest(unittest.TestCase):
    def test_fewer_keys_come_first(self):
        self.assertEqual(answered(THREE_WAYS, small(bits(0, 3, 4, 5, 6), 0, 1)), [[2, 0, 3]])
        self.assertEqual(answered(THREE_WAYS, small(bits(0, 1, 4, 5, 6), 0, 1)), [[3, 4, 5, 6]])
        house = keyed(3, 3, *OWN) + [door(0, 1, locked(0)), door(1, 2, locked(1)), door(0, 2, locked(2))]
        self.assertEqual(answered(house, small(7, 0, 2), small(3, 0, 2), small(7, 0, 1)), [[1, 2], [2, 0, 1], [1, 0]])

    def test_of_as_many_the_first_by_their_keys(self):
        self.assertEqual(answered(THREE_WAYS, small(bits(*range(7)), 0, 1)), [[2, 0, 3]])
        self.assertEqual(answered(THREE_WAYS, small(bits(1, 2, 3, 4), 0, 1)), [[2, 1, 2]])

    def test_by_the_first_key_that_differs_and_not_as_numbers(self):
        # As numbers 0 and 3 (9) come behind 1 and 2 (6).
        self.assertEqual(answered(THREE_WAYS, small(bits(0, 1, 2, 3), 0, 1)), [[2, 0, 3]])
        house = keyed(2, 8, [5, 6], [0, 7]) + [door(0, 1, locked(0)), door(0, 1, locked(1))]
        self.assertEqual(answered(house, small(255, 0, 1), small(bits(5, 6, 7), 0, 1), small(bits(6, 7), 0, 1)),
                         [[1, 0], [1, 5], [1, 6]])

    def test_one_key_for_several_doors(self):
        house = keyed(3, 3, [0, 2], [1, 2]) + [door(0, 1, locked(0)), door(1, 2, locked(1))]
        self.assertEqual(answered(house, small(7, 0, 2), small(3, 0, 2), small(6, 0, 2)), [[1, 2], [2, 0, 1], [1, 2]])

    def test_no_key_where_none_is_asked_for(self):
        house = keyed(3, 2, *OWN[:2]) + [door(0, 1, locked(0)), door(0, 2), door(2, 1)]
        self.assertEqual(answered(house, small(3, 0, 1), small(0, 0, 1), small(3, 0, 1, 1)), [[0]] * 3)

    def test_there_and_back(self):
        house = keyed(2, 3, *OWN[:3]) + [door(0, 1, locked(1), SHUT), door(1, 0, locked(0), SHUT),
                                         door(0, 1, locked(2), locked(2))]
        self.assertEqual(answered(house, small(7, 0, 1, 0), small(7, 0, 1, 1), small(7, 1, 0, 0), small(7, 1, 0, 1)),
                         [[1, 1], [1, 2], [1, 0], [1, 2]])
        self.assertEqual(answered(house, small(3, 0, 1, 0), small(3, 0, 1, 1), small(3, 1, 0, 0), small(3, 1, 0, 1)),
                         [[1, 1], [2, 0, 1], [1, 0], [2, 0, 1]])

    def test_back_may_go_another_way(self):
        house = keyed(3, 2, *OWN[:2]) + [door(0, 1, FREE, SHUT), door(1, 2, locked(1), SHUT),
                                         door(2, 0, locked(0), SHUT)]
        self.assertEqual(answered(house, small(3, 0, 1), small(3, 0, 1, 1), small(3, 1, 0, 1), small(3, 1, 2, 1)),
                         [[0], [2, 0, 1], [2, 0, 1], [2, 0, 1]])

    def test_none_does(self):
        house = keyed(3, 2, *OWN[:2]) + [door(0, 1, locked(0), SHUT), door(1, 2, locked(1), FREE)]
        self.assertEqual(answered(house, small(2, 0, 1), small(3, 1, 0), small(1, 0, 2), small(0, 0, 2)), [[-3]] * 4)

    def test_none_leads_back(self):
        house = keyed(3, 2, *OWN[:2]) + [door(0, 1, locked(0), SHUT), door(1, 2, locked(1), FREE)]
        self.assertEqual(answered(house, small(3, 0, 1, 0), small(3, 0, 1, 1), small(3, 1, 0, 1), small(3, 1, 2, 1)),
                         [[1, 0], [-3], [-3], [1, 1]])

    def test_only_keys_of_the_bunch(self):
        house = keyed(2, 3, [0, 1, 2]) + [door(0, 1, locked(0))]
        self.assertEqual(answered(house, *[small(bunch, 0, 1) for bunch in range(8)]),
                         [[-3], [1, 0], [1, 1], [1, 0], [1, 2], [1, 0], [1, 1], [1, 0]])

    def test_all_8_keys(self):
        house = keyed(9, 8, *OWN) + [door(room, room + 1, locked(7 - room)) for room in range(8)]
        self.assertEqual(answered(house, small(255, 0, 8), small(254, 0, 8), small(255, 8, 0), small(255, 8, 0, 1)),
                         [[8, 0, 1, 2, 3, 4, 5, 6, 7], [-3], [0], [8, 0, 1, 2, 3, 4, 5, 6, 7]])

    def test_from_a_room_to_itself(self):
        questions = [small(127, r, r, back) for r in range(6) for back in (0, 1)]
        self.assertEqual(answered(THREE_WAYS, *questions), [[0]] * 12)
        self.assertEqual(answered([start()], small(0, 2, 2), small(0, 2, 2, 1)), [[0], [0]])

    def test_a_door_from_a_room_to_itself(self):
        house = keyed(2, 2, *OWN[:2]) + [door(0, 0, locked(0), locked(0)), door(0, 1, locked(1))]
        self.assertEqual(answered(house, small(3, 0, 0), small(3, 0, 1), small(1, 0, 1)), [[0], [1, 1], [-3]])


class Needed(unittest.TestCase):
    def test_all_keys_of_a_single_way(self):
        house = keyed(4, 4, *OWN[:4]) + [door(0, 1, locked(2)), door(1, 2, locked(0)), door(2, 3, FREE)]
        self.assertEqual(answered(house, needed(15, 0, 3), needed(15, 0, 1), needed(15, 3, 0), needed(5, 1, 3)),
                         [[2, 0, 2], [1, 2], [0], [1, 0]])

    def test_none_where_there_is_a_second_way(self):
        self.assertEqual(answered(THREE_WAYS, needed(127, 0, 1), needed(bits(0, 1, 2, 3), 0, 1)), [[0], [0]])

    def test_a_second_way_that_the_bunch_does_not_pass_is_none(self):
        self.assertEqual(answered(THREE_WAYS, needed(bits(0, 3, 1, 4, 6), 0, 1), needed(bits(0, 1, 2), 0, 1)),
                         [[2, 0, 3], [2, 1, 2]])
        house = THREE_WAYS + [fit(5, SHUT), fit(6, SHUT), fit(12, SHUT)]
        self.assertEqual(answered(house, needed(127, 0, 1)), [[2, 0, 3]])

    def test_what_all_ways_have_in_common(self):
        house = keyed(3, 4, *OWN[:4]) + [door(0, 1, locked(1)), door(0, 1, locked(2)), door(1, 2, locked(3))]
        self.assertEqual(answered(house, needed(15, 0, 2), needed(10, 0, 2), needed(14, 0, 2)),
                         [[1, 3], [2, 1, 3], [1, 3]])

    def test_one_key_or_another_is_no_need(self):
        house = keyed(2, 2, [0, 1]) + [door(0, 1, locked(0))]
        self.assertEqual(answered(house, needed(3, 0, 1), needed(1, 0, 1), needed(2, 0, 1)), [[0], [1, 0], [1, 1]])

    def test_the_same_key_on_every_way(self):
        house = keyed(3, 2, [0], [0, 1]) + [door(0, 1, locked(0)), door(0, 2), door(2, 1, locked(0))]
        self.assertEqual(answered(house, needed(3, 0, 1), needed(3, 0, 2)), [[1, 0], [0]])

    def test_from_a_room_to_itself(self):
        self.assertEqual(answered(THREE_WAYS, *[needed(127, r, r) for r in range(6)]), [[0]] * 6)

    def test_it_does_not_lead_there(self):
        house = keyed(3, 2, *OWN[:2]) + [door(0, 1, locked(0), SHUT), door(1, 2, locked(1), FREE)]
        self.assertEqual(answered(house, needed(2, 0, 1), needed(3, 1, 0), needed(1, 0, 2), needed(0, 0, 2)),
                         [[-3]] * 4)

    def test_all_8_keys(self):
        house = keyed(9, 8, *OWN) + [door(room, room + 1, locked(7 - room)) for room in range(8)]
        self.assertEqual(answered(house, needed(255, 0, 8), needed(255, 1, 7), needed(127, 0, 8)),
                         [[8, 0, 1, 2, 3, 4, 5, 6, 7], [6, 1, 2, 3, 4, 5, 6], [-3]])


class WhatHangs(unittest.TestCase):
    def test_neither_looks_at_it(self):
        questions = [small(bits(0, 1), 0, 1), small(0, 0, 2), needed(bits(0, 1), 0, 1), needed(bits(0, 1, 2), 0, 1)]
        hung = THREE_WAYS + [hang(3, 0), hang(2, 0), hang(0, 2), hang(1, 1)]
        told = [[-3], [-3], [-3], [2, 1, 2]]
        self.assertEqual(answered(hung, *questions), told)
        self.assertEqual(answered(THREE_WAYS, *questions), told)

    def test_asking_changes_nothing(self):
        house = THREE_WAYS + [hang(3, 0), hang(2, 1)]
        self.assertEqual(looks(*house, small(127, 0, 1, 1), needed(127, 0, 1)), looks(*house))


if __name__ == "__main__":
    unittest.main()
