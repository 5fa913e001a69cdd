"""Going about with what is found: the call found."""

import unittest

from desk_calls import (
    FREE, SHUT, answered, ask, bits, door, fit, found, hang, keyed, leads, locked, looks, start, unhang, way,
)

OWN = [[0], [1], [2], [3], [4]]
# Each key opens the way to the one after it: key 0 hangs in room 0, key 1 in room 1, and so on.
ROW = keyed(5, 4, *OWN[:4]) + [door(room, room + 1, locked(room)) for room in range(4)]
ROW += [hang(number, number) for number in range(4)]


def told(rooms, keys):
    return [len(rooms)] + rooms + keys


class Finding(unittest.TestCase):
    def test_nothing_hangs(self):
        house = keyed(3, 3, *OWN[:3]) + [door(0, 1, locked(1)), door(1, 2, SHUT)]
        self.assertEqual(answered(house, found(0, 0), found(2, 0), found(7, 0), found(0, 1)),
                         [told([0], []), told([0, 1], [1]), told([0, 1], [0, 1, 2]), told([0, 1], [])])

    def test_keys_found_one_after_another(self):
        self.assertEqual(answered(ROW, found(0, 0)), [told([0, 1, 2, 3, 4], [0, 1, 2, 3])])
        self.assertEqual(answered(ROW + [unhang(2)], found(0, 0)), [told([0, 1, 2], [0, 1])])
        self.assertEqual(answered(ROW + [unhang(2)], found(4, 0)), [told([0, 1, 2, 3, 4], [0, 1, 2, 3])])
        self.assertEqual(answered(ROW + [unhang(0)], found(0, 0)), [told([0], [])])

    def test_found_against_the_order_of_rooms_and_keys(self):
        house = keyed(5, 4, *OWN[:4]) + [
            door(4, 3, locked(2)), door(4, 2, locked(0)), door(3, 1, locked(3)), door(4, 0, locked(1)),
            hang(2, 4), hang(3, 3), hang(0, 1), hang(1, 2),
        ]
        self.assertEqual(answered(house, found(0, 4)), [told([0, 1, 2, 3, 4], [0, 1, 2, 3])])
        self.assertEqual(answered(house, found(0, 1)), [told([0, 1, 2, 3, 4], [0, 1, 2, 3])])
        self.assertEqual(answered(house + [unhang(3)], found(0, 4)), [told([3, 4], [2])])

    def test_what_hangs_where_one_begins(self):
        house = keyed(2, 2, *OWN[:2]) + [door(0, 1, locked(0)), hang(0, 0), hang(1, 1)]
        self.assertEqual(answered(house, found(0, 0), found(2, 0)), [told([0, 1], [0, 1])] * 2)
        self.assertEqual(answered(house + [fit(0, SHUT)], found(0, 0)), [told([0], [0])])

    def test_several_keys_in_one_room(self):
        house = keyed(3, 4, *OWN[:4]) + [door(0, 1, locked(3)), door(1, 2, locked(1))]
        house += [hang(number, 0) for number in range(4)]
        self.assertEqual(answered(house, found(0, 0), found(0, 2)), [told([0, 1, 2], [0, 1, 2, 3])] * 2)
        self.assertEqual(answered(house + [fit(3, SHUT)], found(0, 2)), [told([2], [])])

    def test_a_key_that_no_one_comes_by(self):
        house = keyed(3, 2, *OWN[:2]) + [door(0, 1, locked(0)), hang(0, 1), hang(1, 2)]
        self.assertEqual(answered(house, found(0, 0), found(1, 0), found(0, 1), found(0, 2)),
                         [told([0], []), told([0, 1], [0]), told([0, 1], [0]), told([2], [1])])

    def test_a_key_of_the_bunch_that_hangs_is_told_once(self):
        house = keyed(2, 3, *OWN[:3]) + [door(0, 1), hang(0, 0), hang(1, 1)]
        self.assertEqual(answered(house, found(3, 0), found(7, 1)), [told([0, 1], [0, 1]), told([0, 1], [0, 1, 2])])

    def test_a_key_of_the_bunch_serves_though_it_hangs_elsewhere(self):
        house = keyed(3, 1, [0]) + [door(0, 1, locked(0)), hang(0, 2)]
        self.assertEqual(answered(house, found(1, 0), found(0, 0)), [told([0, 1], [0]), told([0], [])])


class BehindATrap(unittest.TestCase):
    def test_what_hangs_there_does_not_help_on_this_side(self):
        # Key 0 hangs in room 1, from which there is no way back; it would turn the door from 0 to 2.
        house = keyed(3, 1, [0]) + [door(0, 1, FREE, SHUT), door(0, 2, locked(0), FREE), hang(0, 1)]
        self.assertEqual(answered(house, found(0, 0)), [told([0, 1], [0])])
        self.assertEqual(answered(house + [fit(1, FREE)], found(0, 0)), [told([0, 1, 2], [0])])
        self.assertEqual(answered(house + [fit(1, locked(0))], found(0, 0)), [told([0, 1, 2], [0])])

    def test_it_helps_further_on(self):
        house = keyed(4, 2, [0], [1]) + [door(0, 1, FREE, SHUT), door(1, 2, locked(0), SHUT),
                                         door(0, 3, locked(0)), hang(0, 1)]
        self.assertEqual(answered(house, found(0, 0)), [told([0, 1, 2], [0])])

    def test_each_on_some_way_and_not_all_on_one(self):
        # Keys 0 and 1 hang behind two traps; the door from either trap asks for the key of the other.
        house = keyed(5, 2, [0], [1]) + [
            door(0, 1, FREE, SHUT), door(0, 2, FREE, SHUT), door(1, 3, locked(1), FREE), door(2, 4, locked(0), FREE),
            hang(0, 1), hang(1, 2),
        ]
        self.assertEqual(answered(house, found(0, 0)), [told([0, 1, 2], [0, 1])])
        self.assertEqual(answered(house, found(1, 0)), [told([0, 1, 2, 4], [0, 1])])
        self.assertEqual(answered(house, found(2, 0)), [told([0, 1, 2, 3], [0, 1])])

    def test_a_key_taken_on_the_way_opens_the_way_back(self):
        house = keyed(4, 2, [0], [1]) + [
            door(0, 1, FREE, locked(0)), door(1, 2, FREE, SHUT), door(2, 1, locked(0), SHUT),
            door(0, 3, locked(1), FREE), hang(0, 2), hang(1, 1),
        ]
        self.assertEqual(answered(house, found(0, 0)), [told([0, 1, 2, 3], [0, 1])])

    def test_a_room_come_to_again_with_more_keys(self):
        # Room 1 is passed without key 0 first; only with it does the door to room 3 turn.
        house = keyed(4, 1, [0]) + [door(0, 1), door(1, 2), door(1, 3, locked(0), FREE), hang(0, 2)]
        self.assertEqual(answered(house, found(0, 0), leads(0, 0)), [told([0, 1, 2, 3], [0]), [3, 0, 1, 2]])

    def test_either_key_leads_to_a_part_of_its_own(self):
        # One comes out of either trap into room 3 with one key alone; from there each key opens one room.
        house = keyed(7, 3, [0], [1], [2]) + [
            door(0, 1, FREE, SHUT), door(0, 2, FREE, SHUT), door(1, 3, FREE, SHUT), door(2, 3, FREE, SHUT),
            door(3, 4, locked(0), SHUT), door(3, 5, locked(1), SHUT), door(4, 6, locked(1), FREE),
            hang(0, 1), hang(1, 2),
        ]
        self.assertEqual(answered(house, found(0, 0)), [told([0, 1, 2, 3, 4, 5], [0, 1])])
        self.assertEqual(answered(house + [fit(3, FREE)], found(0, 0)), [told([0, 1, 2, 3, 4, 5, 6], [0, 1])])


class Changes(unittest.TestCase):
    def test_hung_elsewhere(self):
        house = keyed(3, 1, [0]) + [door(0, 1, locked(0)), hang(0, 2)]
        self.assertEqual(ask(*house, found(0, 0), hang(0, 0), found(0, 0), found(0, 2), unhang(0), found(0, 0))[-6:],
                         [told([0], []), [0], told([0, 1], [0]), told([2], []), [0], told([0], [])])

    def test_finding_takes_nothing_down_for_good(self):
        self.assertEqual(ask(*ROW, found(0, 0), found(0, 0), unhang(3), found(0, 0))[-4:],
                         [told([0, 1, 2, 3, 4], [0, 1, 2, 3])] * 2 + [[0], told([0, 1, 2, 3], [0, 1, 2])])
        self.assertEqual(looks(*ROW, found(0, 0)), looks(*ROW))

    def test_no_other_call_goes_on_with_what_was_found(self):
        self.assertEqual(answered(ROW, found(0, 0), leads(0, 0), way(0, 0, 1)),
                         [told([0, 1, 2, 3, 4], [0, 1, 2, 3]), [1, 0], [-3]])

    def test_a_new_house_has_none_that_hang(self):
        self.assertEqual(answered(ROW + [start(rooms=2)], found(0, 0)), [told([0], [])])

    def test_4_of_8_hang(self):
        house = keyed(2, 8, *OWN) + [door(0, 1, locked(4))] + [hang(number, 0) for number in (1, 4, 6, 7)]
        self.assertEqual(answered(house, found(bits(0, 3), 0), found(bits(2), 1)),
                         [told([0, 1], [0, 1, 3, 4, 6, 7]), told([0, 1], [1, 2, 4, 6, 7])])


if __name__ == "__main__":
    unittest.main()
