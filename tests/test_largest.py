"""The largest houses: 24 rooms, 24 doors, 8 keys, 16 cylinders, 4 that hang; and 400 calls in one."""

import itertools
import unittest

from desk_calls import (
    FREE, SHUT, answered, ask, bits, counts, door, found, hang, joined, keyed, leads, locked, needed, parts, shut,
    small, taken_apart, through, traps, way,
)
from keyhousedesk.house import answers
from test_drawn import Drawn, Reckoning, keys_of, told

ROOMS = list(range(24))
OWN = [[number] for number in range(8)] * 2
HOOKS = [hang(0, 0), hang(1, 16), hang(2, 17), hang(3, 18)]
# A row of rooms: free from 0 to 15, then a key for each door, 0 to 7; back all is free; door 23 leads from 23 to 0.
ROW = keyed(24, 8, *OWN) + [door(room, room + 1) for room in range(15)]
ROW += [door(room, room + 1, locked(room - 15), FREE) for room in range(15, 23)] + [door(23, 0, FREE, SHUT)] + HOOKS
# The same row, told backwards, and no way back but by door 0, from the end to the beginning, with key 7.
ONE_WAY = keyed(24, 8, *OWN) + [door(23, 0, locked(7), SHUT)]
ONE_WAY += [door(room, room + 1, FREE, SHUT) for room in reversed(range(23))] + HOOKS


class Row(unittest.TestCase):
    def test_it_is_as_large_as_can_be(self):
        self.assertEqual(answered(ROW, counts()), [[0, 8, 16, 24, 24]])
        self.assertEqual(ask(*ROW, door(0, 0), hang(4, 0))[-2:], [[-2], [-2]])

    def test_leads(self):
        self.assertEqual(answered(ROW, leads(0, 0), leads(255, 0), leads(127, 0), leads(0, 23), leads(128, 22)),
                         [told(ROOMS[:16]), told(ROOMS), told(ROOMS[:23]), told(ROOMS), told(ROOMS)])

    def test_found(self):
        self.assertEqual(answered(ROW, found(0, 0), found(240, 0), found(16, 3)),
                         [told(ROOMS[:20]) + [0, 1, 2, 3], told(ROOMS) + list(range(8)),
                          told(ROOMS[:21]) + [0, 1, 2, 3, 4]])

    def test_way(self):
        self.assertEqual(answered(ROW, way(255, 0, 23), way(0, 23, 0), way(0, 22, 0), way(254, 0, 16)),
                         [told(range(0, 46, 2)), told([46]), told(range(43, 0, -2)), [-3]])

    def test_small_and_needed(self):
        smallest = [small(255, 0, 23, 1), small(255, 15, 18), small(255, 22, 0, 1), small(254, 0, 23)]
        self.assertEqual(answered(ROW, *smallest), [told(range(8)), told([0, 1, 2]), told(range(7)), [-3]])
        self.assertEqual(answered(ROW, needed(255, 0, 23), needed(255, 20, 23), needed(127, 0, 23)),
                         [told(range(8)), told([5, 6, 7]), [-3]])

    def test_through(self):
        asked = [through(255, 0, 23), through(255, 23, 20), through(127, 22, 0), through(255, 22, 0)]
        self.assertEqual(answered(ROW, *asked),
                         [told(range(0, 46, 2)), [0], told(range(1, 44, 2)), [0]])

    def test_traps(self):
        # Without keys: each side back through a door that is locked the other way, and from the end to the beginning.
        self.assertEqual(answered(ROW, traps(255, 0), traps(0, 23), traps(0, 0)),
                         [[0], told([31, 33, 35, 37, 39, 41, 43, 45, 46]), [0]])

    def test_shut_and_parts(self):
        self.assertEqual(answered(ROW, shut(0, 23), shut(0, 0), parts(0), parts(255)),
                         [told(ROOMS[:23]), [0], [9] + [0] * 16 + ROOMS[16:], [1] + [0] * 24])


class OneWay(unittest.TestCase):
    def test_a_walk_told_against_the_numbers(self):
        self.assertEqual(answered(ONE_WAY, way(0, 0, 23), way(128, 1, 0), way(127, 1, 0), through(128, 1, 0)),
                         [told(range(46, 0, -2)), told([*range(44, 0, -2), 0]), [-3], told(range(0, 45, 2))])

    def test_leads_shut_and_parts(self):
        asked = [leads(0, 20), leads(128, 20), shut(0, 3), shut(128, 3), parts(127), parts(128)]
        self.assertEqual(answered(ONE_WAY, *asked),
                         [told([20, 21, 22, 23]), told(ROOMS), told(ROOMS[4:]), [0], [24] + ROOMS, [1] + [0] * 24])

    def test_traps(self):
        self.assertEqual(answered(ONE_WAY, traps(0, 0), traps(128, 0), traps(0, 22)),
                         [told(range(2, 48, 2)), [0], told([2])])

    def test_found(self):
        self.assertEqual(answered(ONE_WAY, found(0, 17), found(128, 20), found(0, 19)),
                         [told(ROOMS[17:]) + [2, 3], told(ROOMS) + [0, 1, 2, 3, 7], told(ROOMS[19:])])

    def test_small_and_needed(self):
        asked = [small(255, 0, 23), small(255, 0, 23, 1), needed(255, 1, 0), small(127, 5, 4)]
        self.assertEqual(answered(ONE_WAY, *asked),
                         [[0], told([7]), told([7]), [-3]])


class LongLists(unittest.TestCase):
    def questions(self, seed):
        """All that can be asked with a few bunches, rooms going round."""
        rooms = itertools.cycle([(seed * 5 + place * 7) % 24 for place in range(24)])
        bunches = itertools.cycle([255, 0, 127, 90, 165, 254, 60])
        while True:
            bunch, r, t = next(bunches), next(rooms), next(rooms)
            yield from (leads(bunch, r), found(bunch, r), way(bunch, r, t), small(bunch, r, t, 0),
                        small(bunch, r, t, 1), needed(bunch, r, t), through(bunch, r, t), traps(bunch, r),
                        shut(bunch, t), parts(bunch))

    def test_400_calls_in_houses_that_are_drawn(self):
        named = ("leads", "found", "way", "small", "needed", "through", "traps", "shut", "parts")
        for seed in range(6):
            house = Drawn(seed + 100, 24, 24, 8, 16)
            asked = list(itertools.islice(self.questions(seed), 400 - len(house.calls)))
            given = taken_apart(answers(joined(house.calls + asked)))
            self.assertEqual(len(given), 400)
            reckoned = house.reckoned(Reckoning)
            for call, answer in zip(asked, given[len(house.calls):]):
                number, bunch, *rest = call
                self.assertEqual(answer, getattr(reckoned, named[number - 9])(keys_of(bunch), *rest), (seed, call))

    def test_400_calls_that_try_every_bunch(self):
        asked = [small(255, 0, 23, 1)] * (400 - len(ROW))
        self.assertEqual(answered(ROW, *asked), [told(range(8))] * len(asked))

    def test_a_longest_way_of_finding(self):
        # Each key hangs at the far end of the row from the door that it turns, so that one goes to and fro.
        house = keyed(24, 8, *OWN) + [door(room, room + 1) for room in range(2, 20)]
        house += [door(2, 1, locked(0), FREE), door(20, 21, locked(1), FREE), door(1, 0, locked(2), FREE),
                  door(21, 22, locked(3), FREE), door(22, 23, locked(4), FREE), door(0, 0)]
        house += [hang(0, 20), hang(1, 1), hang(2, 21), hang(3, 0)]
        self.assertEqual(answered(house, found(0, 10), found(16, 10), found(bits(0), 0)),
                         [told(ROOMS[:23]) + [0, 1, 2, 3], told(ROOMS) + [0, 1, 2, 3, 4],
                          told(ROOMS[:23]) + [0, 1, 2, 3]])


if __name__ == "__main__":
    unittest.main()
