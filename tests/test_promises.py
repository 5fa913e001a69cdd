"""F7 over all calls, and the interface."""

import unittest

from desk_calls import (
    FREE, GREATEST, LETTERS, SHUT, ask, bits, counts, cylinder, door, fit, found, hang, joined, key, keyed, leads,
    locked, looks, needed, opens, parts, shut, small, start, through, traps, unhang, way,
)
from keyhousedesk.house import answers

HOUSE = [
    start(),
    *[key(0, [0, 0, 0])] * 3, *[key(1, [2, 2, 2])] * 3,
    cylinder(0, [1, 1, 1]), cylinder(1, [bits(0, 2)] * 3),
    door(0, 1, locked(0), FREE), door(1, 2, SHUT, locked(1)), door(3, 3, locked(1), locked(0)),
    *[hang(number, 1) for number in range(4)],
]
FULL = [
    start(),
    *[key(0, [0, 0, 0])] * 8, *[cylinder(0, [1, 1, 1])] * 16, *[door(0, 1, locked(0), FREE)] * 24,
    *[hang(number, 2) for number in range(4)],
]
REFUSED = [
    (start(n=8), -1), (start(depths=11), -1), (start(step=5), -1), (start(pin=0), -1), (start(kinds=4), -1),
    (start(run=4), -1), (start(rooms=0), -1), (start(rooms=25), -1),
    (key(0, []), -1), (key(0, [0, 0, 5]), -1), (key(LETTERS, [0, 0, 0]), -1),
    (cylinder(0, [1, 1]), -1), (cylinder(0, [1, 1, 0]), -1), (cylinder(0, [1, 1, 3]), -1),
    (cylinder(LETTERS, [1, 1, 1]), -1),
    (door(0, 1, (0, 1), FREE), -1), (door(0, 1, FREE, (3, 0)), -1), (door(4, 0), -4), (door(0, 4), -4),
    (door(0, 1, locked(16), FREE), -4), (door(0, 1, FREE, locked(16)), -4),
    (fit(0, (2, 1)), -1), (fit(48, FREE), -4), (fit(0, locked(16)), -4),
    (hang(8, 0), -4), (hang(0, 4), -4), (hang(5, 0), -2),
    (unhang(8), -4), (unhang(5), -3), (opens(48), -4),
    (leads(256, 0), -1), (leads(0, 4), -4), (found(256, 0), -1), (found(0, 4), -4),
    (way(256, 0, 1), -1), (way(0, 0, 4), -4), (way(1, 0, 3), -3),
    (small(1, 0, 1, 2), -1), (small(256, 0, 1), -1), (small(0, 4, 0), -4), (small(1, 0, 3), -3),
    (needed(256, 0, 1), -1), (needed(0, 0, 4), -4), (needed(1, 0, 3), -3),
    (through(256, 0, 1), -1), (through(0, 4, 1), -4), (through(1, 0, 3), -3),
    (traps(256, 0), -1), (traps(0, 4), -4), (shut(256, 0), -1), (shut(0, 4), -4), (parts(256), -1),
]
QUESTIONS = [
    leads(7, 0), found(0, 0), way(7, 0, 1), small(7, 0, 1, 1), needed(7, 0, 1), through(7, 0, 1), traps(7, 0),
    shut(7, 1), parts(7), way(7, 2, 2),
]
REFUSED_WHERE_FULL = [(key(0, [0, 0, 0]), -2), (cylinder(0, [1, 1, 1]), -2), (door(0, 1, FREE, SHUT), -2)]


class RefusedCalls(unittest.TestCase):
    def changes_nothing(self, house, refused):
        before = looks(*house)
        for call, number in refused:
            self.assertEqual(ask(*house, call)[-1], [number], call)
            self.assertEqual(looks(*house, call), before, call)

    def test_a_refused_call_changes_nothing(self):
        self.changes_nothing(HOUSE, REFUSED)

    def test_a_refused_call_changes_nothing_where_all_is_full(self):
        self.changes_nothing(FULL, REFUSED + REFUSED_WHERE_FULL)

    def test_what_comes_next_is_numbered_as_if_nothing_had_been_refused(self):
        refused = [call for call, number in REFUSED]
        told = [key(0, [0, 0, 0]), cylinder(0, [1, 1, 1]), door(0, 1), fit(7, locked(2)), opens(7)]
        self.assertEqual(ask(*HOUSE, *refused, *told)[-5:], [[6], [2], [3], [0], [4, 0, 1, 2, 6]])

    def test_a_call_before_a_house_changes_nothing(self):
        early = [key(0, [0, 0, 0]), cylinder(0, [1, 1, 1]), door(0, 1), hang(0, 0)]
        self.assertEqual(ask(*early), [[-5]] * 4)
        self.assertEqual(looks(*early, *HOUSE), looks(*HOUSE))

    def test_a_new_house_has_nothing_of_the_one_before(self):
        self.assertEqual(looks(*FULL, start(rooms=7)), looks(start(rooms=7)))
        self.assertEqual(ask(*FULL, start(rooms=7), counts(), opens(0))[-2:], [[0, 0, 0, 0, 7], [-4]])

    def test_a_new_house_has_a_make_of_its_own(self):
        one_chamber = start(n=1, depths=2, step=1, pin=1, kinds=1, run=1)
        given = ask(start(), one_chamber, key(0, [1]), key(0, [0, 0, 0]), key(0, [2]), cylinder(0, [3]))
        self.assertEqual(given[2:], [[0], [-1], [-1], [0]])

    def test_a_refused_start_keeps_the_make_that_was_there(self):
        given = ask(start(), start(n=1, depths=2, step=1, pin=1, kinds=1, run=1, rooms=0), key(0, [4, 4, 4]))
        self.assertEqual(given[1:], [[-1], [0]])


class Interface(unittest.TestCase):
    def test_how_answers_stand_in_the_list(self):
        calls = joined([counts(), start(), key(0, [0, 0, 0]), cylinder(0, [1, 1, 1]),
                        door(0, 1, locked(0), FREE), opens(0), opens(1), opens(2), counts()])
        self.assertEqual(answers(calls), [1, -5, 1, 0, 1, 0, 1, 0, 1, 0, 2, 1, 0, 1, 0, 1, -4, 5, 0, 1, 1, 1, 4])

    def test_rows_without_numbers_and_of_16(self):
        given = ask(start(), key(0, []), counts(), cylinder(0, [7] * 16), counts())
        self.assertEqual(given, [[0], [-1], [0, 0, 0, 0, 4], [-1], [0, 0, 0, 0, 4]])

    def test_how_the_later_calls_and_answers_stand_in_the_list(self):
        house = [*keyed(3, 2, [0], [1]), door(0, 1, locked(0), SHUT), door(1, 2, locked(1), FREE), hang(1, 1)]
        calls = [9, 1, 0, 10, 1, 0, 11, 3, 0, 2, 12, 3, 0, 2, 0, 12, 3, 1, 2, 1, 13, 3, 0, 2, 14, 3, 0, 2, 15, 3, 0,
                 16, 3, 0, 17, 3, 11, 0, 0, 2, 14, 3, 9, 0]
        given = answers(joined(house) + calls)[2 * len(house):]
        self.assertEqual(given, [
            3, 2, 0, 1, 6, 3, 0, 1, 2, 0, 1, 3, 2, 0, 2, 3, 2, 0, 1, 2, 1, 1, 3, 2, 0, 1, 3, 2, 0, 2, 2, 1, 0,
            3, 2, 1, 2, 4, 2, 0, 1, 1, 1, -3, 1, -4,
        ])

    def test_every_call_but_the_first_before_a_house(self):
        later = [[9, 0, 0], [10, 0, 0], [11, 0, 0, 0], [12, 0, 0, 0, 2], [13, 0, 0, 0], [14, 0, 0, 0],
                 [15, 0, 0], [16, 0, 0], [17, 0]]
        early = [key(0, []), cylinder(0, []), door(0, 0), fit(0, FREE), hang(0, 0), unhang(0), counts(), opens(0)]
        self.assertEqual(ask(*early, *later, *early), [[-5]] * 25)

    def test_the_greatest_number_everywhere(self):
        most = GREATEST
        calls = [start(most, most, most, most, most, most, most), start(), key(most, [most] * 16),
                 cylinder(most, [most] * 16), door(most, most, (most, most), (most, most)), fit(most, (most, most)),
                 hang(most, most), unhang(most), opens(most), leads(most, most), found(most, most),
                 way(most, most, most), small(most, most, most, most), needed(most, most, most),
                 through(most, most, most), traps(most, most), shut(most, most), parts(most), counts()]
        given = [[-1], [0], [-1], [-1], [-1], [-1], [-4], [-4], [-4]] + [[-1]] * 9 + [[0, 0, 0, 0, 4]]
        self.assertEqual(ask(*calls), given)

    def test_what_is_handed_in_stays_as_it_was(self):
        calls = joined(HOUSE + [call for call, number in REFUSED] + QUESTIONS + [counts()])
        kept = list(calls)
        answers(calls)
        self.assertEqual(calls, kept)

    def test_nothing_is_kept_from_one_time_to_the_next(self):
        calls = joined(FULL + QUESTIONS)
        first = answers(calls)
        self.assertEqual(answers(counts()), [1, -5])
        self.assertEqual(answers(found(0, 0)), [1, -5])
        self.assertEqual(answers(calls), first)

    def test_what_is_given_back_is_the_callers(self):
        calls = joined(HOUSE + [opens(0)] + QUESTIONS)
        first = answers(calls)
        kept = list(first)
        first.clear()
        self.assertEqual(answers(calls), kept)

    def test_whole_numbers_in_a_list(self):
        given = answers(joined(HOUSE + [opens(0), counts()] + QUESTIONS))
        self.assertIs(type(given), list)
        self.assertEqual({type(number) for number in given}, {int})

    def test_400_calls_as_long_as_can_be(self):
        calls = [start()] + [key(0, [0] * 16)] * 399
        self.assertEqual(ask(*calls), [[0]] + [[-1]] * 399)

    def test_400_calls(self):
        self.assertEqual(ask(start(), *[counts()] * 399), [[0]] + [[0, 0, 0, 0, 4]] * 399)


if __name__ == "__main__":
    unittest.main()
