"""What the calls from leads to parts refuse, and in which order."""

import unittest

from desk_calls import (
    FREE, GREATEST, answered, ask, door, found, keyed, leads, locked, needed, parts, shut, small, start, through,
    traps, way,
)

# Three keys, four rooms; with all keys one comes from 0 to 1 and not back, and nowhere else.
HOUSE = keyed(4, 3, [0]) + [door(0, 1, locked(0), (2, 0))]
OF_A_ROOM = (leads, found, traps, shut)
OF_TWO_ROOMS = (way, small, needed, through)


def with_back(bunch, r, t):
    return small(bunch, r, t, 1)


class NoHouse(unittest.TestCase):
    def test_before_all_else(self):
        for bunch, r, t in ((0, 0, 0), (0, 0, 1), (GREATEST, GREATEST, GREATEST)):
            calls = [asked(bunch, r) for asked in OF_A_ROOM] + [asked(bunch, r, t) for asked in OF_TWO_ROOMS]
            calls += [small(bunch, r, t, 1), small(bunch, r, t, 2), small(bunch, r, t, GREATEST), parts(bunch)]
            self.assertEqual(ask(*calls), [[-5]] * len(calls))

    def test_a_house_refused_is_none(self):
        calls = [leads(0, 0), found(0, 0), way(0, 0, 0), small(0, 0, 0, 2), needed(0, 0, 0), through(0, 0, 0),
                 traps(0, 0), shut(0, 0), parts(0)]
        self.assertEqual(ask(start(rooms=25), *calls), [[-1]] + [[-5]] * 9)


class NoSuchKey(unittest.TestCase):
    def test_a_key_that_is_not_there(self):
        for bunch in (8, 9, 15, 16, 256, 2 ** 31, GREATEST):
            for asked in OF_A_ROOM:
                self.assertEqual(answered(HOUSE, asked(bunch, 0)), [[-1]], (asked, bunch))
            for asked in OF_TWO_ROOMS + (with_back,):
                self.assertEqual(answered(HOUSE, asked(bunch, 0, 0), asked(bunch, 0, 1)), [[-1]] * 2, (asked, bunch))
            self.assertEqual(answered(HOUSE, parts(bunch)), [[-1]], bunch)

    def test_all_that_are_there(self):
        for asked in OF_A_ROOM:
            self.assertGreaterEqual(answered(HOUSE, asked(7, 0))[0][0], 0, asked)
        for asked in OF_TWO_ROOMS:
            self.assertGreaterEqual(answered(HOUSE, asked(7, 0, 1))[0][0], 0, asked)
        self.assertEqual(answered(HOUSE, parts(7)), [[4, 0, 1, 2, 3]])

    def test_a_house_without_keys_and_one_with_8(self):
        self.assertEqual(answered([start()], leads(0, 0), leads(1, 0), parts(0), parts(1)),
                         [[1, 0], [-1], [4, 0, 1, 2, 3], [-1]])
        self.assertEqual(answered(keyed(1, 8), leads(255, 0), leads(256, 0), parts(255), parts(256)),
                         [[1, 0], [-1], [1, 0], [-1]])

    def test_before_a_room_that_is_not_there(self):
        for asked in OF_A_ROOM:
            self.assertEqual(answered(HOUSE, asked(8, 4)), [[-1]], asked)
        for asked in OF_TWO_ROOMS + (with_back,):
            self.assertEqual(answered(HOUSE, asked(8, 4, 0), asked(8, 0, 4), asked(GREATEST, 9, 9)), [[-1]] * 3, asked)


class NoSuchRoom(unittest.TestCase):
    def test_of_one_room(self):
        for asked in OF_A_ROOM:
            for room in (4, 5, 24, GREATEST):
                self.assertEqual(answered(HOUSE, asked(7, room), asked(0, room)), [[-4]] * 2, (asked, room))
            self.assertGreaterEqual(answered(HOUSE, asked(7, 3))[0][0], 0, asked)

    def test_of_two_rooms(self):
        for asked in OF_TWO_ROOMS + (with_back,):
            for r, t in ((4, 0), (0, 4), (4, 4), (GREATEST, 0), (0, GREATEST), (GREATEST, GREATEST), (24, 24)):
                self.assertEqual(answered(HOUSE, asked(7, r, t), asked(0, r, t)), [[-4]] * 2, (asked, r, t))
            self.assertEqual(answered(HOUSE, asked(7, 3, 3)), [[0]], asked)

    def test_the_24th_and_the_25th(self):
        house = [start(rooms=24)]
        self.assertEqual(answered(house, leads(0, 23), leads(0, 24), way(0, 23, 23), way(0, 23, 24), way(0, 24, 23)),
                         [[1, 23], [-4], [0], [-4], [-4]])

    def test_before_that_none_leads_there(self):
        for asked in OF_TWO_ROOMS:
            self.assertEqual(answered(HOUSE, asked(0, 0, 1), asked(7, 1, 0), asked(7, 2, 3), asked(7, 1, 4)),
                             [[-3], [-3], [-3], [-4]], asked)
        self.assertEqual(answered(HOUSE, with_back(7, 0, 1), with_back(7, 0, 4)), [[-3], [-4]])


class NoSuchBack(unittest.TestCase):
    def test_before_all_else(self):
        for back in (2, 3, GREATEST):
            for bunch, r, t in ((7, 0, 1), (7, 0, 0), (0, 1, 0), (7, 4, 0), (7, 0, 4), (8, 0, 0), (8, 4, 4)):
                self.assertEqual(answered(HOUSE, small(bunch, r, t, back)), [[-1]], (bunch, r, t, back))

    def test_0_and_1_are_taken(self):
        house = HOUSE + [door(1, 0, FREE, FREE)]
        self.assertEqual(answered(house, small(7, 0, 1, 0), small(7, 0, 1, 1)), [[0], [0]])


if __name__ == "__main__":
    unittest.main()
