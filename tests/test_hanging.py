"""Keys that hang: the calls hang and unhang."""

import unittest

from desk_calls import GREATEST, ask, found, hang, key, last, start, unhang

SIX_KEYS = [start()] + [key(0, [0, 0, 0])] * 6
FOUR_HANG = SIX_KEYS + [hang(number, number) for number in range(4)]


def hanging(*calls):
    """Which key hangs in which of the four rooms: without doors one finds what hangs where one begins, no more."""
    given = ask(*calls, *[found(0, room) for room in range(4)])[-4:]
    return {number: room for room, told in enumerate(given) for number in told[2:]}


class Hanging(unittest.TestCase):
    def test_ordinary(self):
        self.assertEqual(ask(*SIX_KEYS, hang(5, 3), unhang(5))[-2:], [[0], [0]])
        self.assertEqual(hanging(*SIX_KEYS, hang(5, 3)), {5: 3})

    def test_several_in_one_room(self):
        house = SIX_KEYS + [hang(number, 2) for number in range(4)]
        self.assertEqual(last(*house), [0])
        self.assertEqual(hanging(*house), {0: 2, 1: 2, 2: 2, 3: 2})

    def test_hung_again_it_hangs_there_alone(self):
        given = ask(*SIX_KEYS, hang(0, 0), hang(0, 1), unhang(0), unhang(0))
        self.assertEqual(given[-4:], [[0], [0], [0], [-3]])
        self.assertEqual(hanging(*SIX_KEYS, hang(0, 0), hang(0, 1)), {0: 1})

    def test_before_a_house(self):
        self.assertEqual(ask(hang(0, 0), hang(GREATEST, GREATEST)), [[-5], [-5]])

    def test_no_such_key(self):
        for number in (6, 7, GREATEST):
            self.assertEqual(last(*SIX_KEYS, hang(number, 0)), [-4], number)
        self.assertEqual(last(start(), hang(0, 0)), [-4])

    def test_no_such_room(self):
        self.assertEqual(last(*SIX_KEYS, hang(0, 3)), [0])
        for room in (4, 5, GREATEST):
            self.assertEqual(last(*SIX_KEYS, hang(0, room)), [-4], room)
        self.assertEqual(last(start(rooms=24), key(0, [0, 0, 0]), hang(0, 23)), [0])
        self.assertEqual(last(start(rooms=24), key(0, [0, 0, 0]), hang(0, 24)), [-4])

    def test_the_4th_and_the_5th(self):
        self.assertEqual(last(*FOUR_HANG), [0])
        self.assertEqual(last(*FOUR_HANG, hang(4, 0)), [-2])
        self.assertEqual(hanging(*FOUR_HANG, hang(4, 0)), {0: 0, 1: 1, 2: 2, 3: 3})

    def test_hung_again_while_4_hang(self):
        for number in range(4):
            self.assertEqual(last(*FOUR_HANG, hang(number, 0)), [0], number)
        self.assertEqual(hanging(*FOUR_HANG, hang(1, 3)), {0: 0, 1: 3, 2: 2, 3: 3})
        self.assertEqual(last(*FOUR_HANG, hang(1, 3), hang(4, 0)), [-2])

    def test_room_for_another_behind_unhang(self):
        given = ask(*FOUR_HANG, unhang(2), hang(4, 0), hang(5, 0))
        self.assertEqual(given[-3:], [[0], [0], [-2]])

    def test_the_first_refusal_told_is_answered(self):
        self.assertEqual(last(*FOUR_HANG, hang(6, 0)), [-4])
        self.assertEqual(last(*FOUR_HANG, hang(4, 4)), [-4])
        self.assertEqual(last(*FOUR_HANG, hang(0, 4)), [-4])

    def test_a_new_house_has_none_that_hang(self):
        given = ask(*FOUR_HANG, *SIX_KEYS, unhang(0), *[hang(number, 0) for number in range(5)])
        self.assertEqual(given[-6:], [[-3], [0], [0], [0], [0], [-2]])


class Unhanging(unittest.TestCase):
    def test_ordinary(self):
        self.assertEqual(last(*FOUR_HANG, unhang(1)), [0])
        self.assertEqual(hanging(*FOUR_HANG, unhang(1)), {0: 0, 2: 2, 3: 3})

    def test_before_a_house(self):
        self.assertEqual(ask(unhang(0), unhang(GREATEST)), [[-5], [-5]])

    def test_no_such_key(self):
        for number in (6, GREATEST):
            self.assertEqual(last(*FOUR_HANG, unhang(number)), [-4], number)

    def test_it_does_not_hang(self):
        self.assertEqual(last(*FOUR_HANG, unhang(4)), [-3])
        self.assertEqual(last(*SIX_KEYS, unhang(0)), [-3])
        self.assertEqual(ask(*FOUR_HANG, unhang(0), unhang(0))[-2:], [[0], [-3]])


if __name__ == "__main__":
    unittest.main()
