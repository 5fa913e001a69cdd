"""Houses and calls that are drawn, held against a second telling of the document and a plain second reckoning."""

import functools
import itertools
import random
import unittest

from desk_calls import (
    FREE, GREATEST, LETTERS, SHUT, answered, bits, counts, cylinder, door, fit, found, hang, joined, key, keyed, leads,
    locked, needed, opens, parts, shut, small, start, taken_apart, through, traps, unhang, way,
)
from keyhousedesk.house import answers

# Each call with 0, if it is taken, or with a refusal of its own.
EVERY_ANSWER = [
    (0, 0), (0, -1), (1, 0), (1, -1), (1, -2), (2, 0), (2, -1), (2, -2), (3, 0), (3, -1), (3, -4), (3, -2),
    (4, 0), (4, -1), (4, -4), (5, 0), (5, -4), (5, -2), (6, 0), (6, -4), (6, -3), (7, 0), (8, 0), (8, -4),
    (9, 0), (9, -1), (9, -4), (10, 0), (10, -1), (10, -4), (11, 0), (11, -1), (11, -4), (11, -3),
    (12, 0), (12, -1), (12, -4), (12, -3), (13, 0), (13, -1), (13, -4), (13, -3), (14, 0), (14, -1), (14, -4), (14, -3),
    (15, 0), (15, -1), (15, -4), (16, 0), (16, -1), (16, -4), (17, 0), (17, -1),
]


def told(numbers):
    return [len(numbers)] + list(numbers)


def keys_of(bunch):
    return [number for number in range(32) if bunch >> number & 1]


def every_bunch(numbers):
    """All bunches of these keys, in the document's order."""
    for many in range(len(numbers) + 1):
        yield from itertools.combinations(numbers, many)


class Telling:
    """The document told a second time, call by call, with sets of Python's own."""

    def __init__(self):
        self.make = None

    def answer(self, call):
        if call[0] == 0:
            return self.answer_start(*call[1:])
        if self.make is None:
            return [-5]
        if call[0] > 8:
            return self.asked(*call)
        named = (self.key, self.cylinder, self.door, self.fit, self.hang, self.unhang, self.counts, self.opens)
        return named[call[0] - 1](*call[1:])

    def answer_start(self, n, depths, step, pin, kinds, run, rooms):
        fine = (n in range(1, 8) and depths in range(2, 11) and step in range(1, depths) and pin in range(1, depths)
                and kinds in range(1, min(n, depths) + 1) and run in range(1, n + 1) and rooms in range(1, 25))
        if not fine:
            return [-1]
        self.make = (n, depths, pin)
        self.rooms = range(rooms)
        self.told_keys, self.cylinders, self.doors, self.ends, self.hooks = [], [], [], [], {}
        return [0]

    def key(self, grooves, many, *cuts):
        n, depths, pin = self.make
        if many != n or max(cuts) >= depths or grooves.bit_length() > 26:
            return [-1]
        return self.put(self.told_keys, 8, (grooves, cuts))

    def cylinder(self, wards, many, *sets):
        n, depths, pin = self.make
        chambers = [[depth for depth in range(32) if one & 1 << depth] for one in sets]
        if many != n or wards.bit_length() > 26:
            return [-1]
        for chamber in chambers:
            close = [1 for low in chamber for high in chamber if low < high < low + pin]
            if close or not 1 <= len(chamber) <= 6 or chamber[-1] >= depths:
                return [-1]
        return self.put(self.cylinders, 16, (wards, chambers))

    def door(self, a, b, *sides):
        sides = [sides[:2], sides[2:]]
        if not all(self.tells(side) for side in sides):
            return [-1]
        if not {a, b} <= set(self.rooms) or self.lacks(sides[0]) or self.lacks(sides[1]):
            return [-4]
        self.put(self.ends, 24, (a, b))
        return self.put(self.doors, 24, sides)

    def fit(self, side, *what):
        if not self.tells(what):
            return [-1]
        if side // 2 >= len(self.doors) or self.lacks(what):
            return [-4]
        self.doors[side // 2][side % 2] = what
        return [0]

    def hang(self, number, room):
        if number >= len(self.told_keys) or room not in self.rooms:
            return [-4]
        if len(set(self.hooks) | {number}) > 4:
            return [-2]
        self.hooks[number] = room
        return [0]

    def unhang(self, number):
        if number >= len(self.told_keys):
            return [-4]
        return [-3] if self.hooks.pop(number, None) is None else [0]

    def counts(self):
        return [0, len(self.told_keys), len(self.cylinders), len(self.doors), len(self.rooms)]

    def opens(self, side):
        if side // 2 >= len(self.doors):
            return [-4]
        what, which = self.doors[side // 2][side % 2]
        if what != 1:
            return [0]
        wards, chambers = self.cylinders[which]
        turning = [number for number, (grooves, cuts) in enumerate(self.told_keys)
                   if not wards & ~grooves and all(cut in chamber for cut, chamber in zip(cuts, chambers))]
        return [len(turning)] + turning

    def put(self, shelf, most, thing):
        if len(shelf) >= most:
            return [-2]
        shelf.append(thing)
        return [len(shelf) - 1]

    def tells(self, side):
        return side[0] == 1 or side in ((0, 0), (2, 0))

    def lacks(self, side):
        return side[0] == 1 and side[1] >= len(self.cylinders)

    def asked(self, number, bunch, *rest):
        if number == 12 and rest[2] not in (0, 1):
            return [-1]
        if set(keys_of(bunch)) - set(range(len(self.told_keys))):
            return [-1]
        if set(rest[:2]) - set(self.rooms):
            return [-4]
        named = ("leads", "found", "way", "small", "needed", "through", "traps", "shut", "parts")
        return getattr(self.reckoning(), named[number - 9])(keys_of(bunch), *rest)

    def reckoning(self):
        sides = []
        for number in range(2 * len(self.doors)):
            a, b = self.ends[number // 2][::1 - number % 2 * 2]
            what, which = self.doors[number // 2][number % 2]
            sides.append((number, a, b, what == 0, set(self.opens(number)[1:])))
        return Reckoning(self.rooms, sides, self.hooks)


class Reckoning:
    """Answers about one house by sets that grow until they grow no more; keys are a list, rising."""

    def __init__(self, rooms, sides, hooks):
        self.rooms = rooms
        self.sides = sides
        self.hooks = hooks

    def passed(self, having):
        return [(number, a, b) for number, a, b, free, turners in self.sides if free or turners & set(having)]

    def reached(self, having, r, left_out=None):
        rooms = {r}
        grown = True
        while grown:
            more = {b for number, a, b in self.passed(having) if a in rooms and number != left_out}
            grown = not more <= rooms
            rooms |= more
        return rooms

    def leads(self, having, r):
        return told(sorted(self.reached(having, r)))

    def found(self, having, r):
        states = {(r, frozenset(having))}
        waiting = list(states)
        while waiting:
            room, keys = waiting.pop()
            more = {(room, keys | {number}) for number, hook in self.hooks.items() if hook == room}
            more |= {(b, keys) for number, a, b in self.passed(keys) if a == room}
            waiting += more - states
            states |= more
        return told(sorted({room for room, keys in states})) + sorted(set().union(*[keys for room, keys in states]))

    def way(self, having, r, t):
        # The first walks of just so many sides, to each room.
        first = {r: ()}
        for many in self.rooms:
            if t in first:
                return told(first[t])
            longer = [(first[a] + (number,), b) for number, a, b in self.passed(having) if a in first]
            first = {b: walk for walk, b in sorted(longer, reverse=True)}
        return [-3]

    def small(self, having, r, t, back):
        for chosen in every_bunch(having):
            if t in self.reached(chosen, r) and (back == 0 or r in self.reached(chosen, t)):
                return told(chosen)
        return [-3]

    def needed(self, having, r, t):
        leading = [set(chosen) for chosen in every_bunch(having) if t in self.reached(chosen, r)]
        return told(sorted(set.intersection(*leading))) if leading else [-3]

    def through(self, having, r, t):
        if t not in self.reached(having, r):
            return [-3]
        return told([number for number, *rest in self.sides if t not in self.reached(having, r, number)])

    def traps(self, having, r):
        rooms = self.reached(having, r)
        return told([number for number, a, b in self.passed(having) if a in rooms and a not in self.reached(having, b)])

    def shut(self, having, t):
        return told([room for room in self.rooms if t not in self.reached(having, room)])

    def parts(self, having):
        reached = [self.reached(having, room) for room in self.rooms]
        least = [min(other for other in self.rooms if other in reached[room] and room in reached[other])
                 for room in self.rooms]
        return [len(set(least))] + least


class EveryWalk(Reckoning):
    """The same from every walk there is, of up to as many sides as there are rooms: walks that pass rooms twice too."""

    def __init__(self, rooms, sides, hooks):
        super().__init__(rooms, sides, hooks)
        self.walks = functools.cache(self.try_every_walk)

    def try_every_walk(self, having, r):
        """Pairs of a walk and the room where it ends, in the document's order of walks."""
        passed = self.passed(having)
        level = [((), r)]
        every = list(level)
        for many in self.rooms:
            level = [(walk + (number,), b) for walk, room in level for number, a, b in passed if a == room]
            every += level
        return every

    def walks_to(self, having, r, t):
        return [walk for walk, room in self.walks(tuple(having), r) if room == t]

    def reached(self, having, r, left_out=None):
        return {room for walk, room in self.walks(tuple(having), r) if left_out not in walk}

    def way(self, having, r, t):
        walks = self.walks_to(having, r, t)
        return told(min(walks, key=lambda walk: (len(walk), walk))) if walks else [-3]

    def through(self, having, r, t):
        walks = [set(walk) for walk in self.walks_to(having, r, t)]
        return told(sorted(set.intersection(*walks))) if walks else [-3]

    def found(self, having, r):
        """By every going about: single walks to a room, and there a key that hangs is taken or left."""
        goings = {(r, tuple(having))}
        waiting = list(goings)
        while waiting:
            room, keys = waiting.pop()
            more = set()
            for walk, end in self.walks(keys, room):
                here = [number for number, hook in self.hooks.items() if hook == end and number not in keys]
                more |= {(end, tuple(sorted(keys + taken))) for taken in every_bunch(here)}
            waiting += more - goings
            goings |= more
        return told(sorted({room for room, keys in goings})) + sorted({key for room, keys in goings for key in keys})


class Chance:
    """Calls by chance, mostly near what is taken."""

    def __init__(self, seed):
        self.source = random.Random(seed)
        self.n = self.source.randint(1, 3)
        self.depths = self.source.randint(2, 5)
        self.begins_again = True

    def near(self, most):
        return self.source.choice([self.source.randint(0, most)] * 9 + [self.source.choice([most + 1, GREATEST])])

    def row(self, most):
        many = self.source.choice([self.n] * 9 + [self.source.randint(0, 16)])
        return [self.near(most) for place in range(many)]

    def what(self):
        return self.source.choice([FREE, SHUT] + [locked(self.near(5))] * 4 + [(self.near(2), self.near(1))])

    def letters(self):
        return self.source.choice([0, 0, 1, 2, 3, LETTERS - 1, LETTERS])

    def bunch(self):
        return self.source.choice([0, 1, 2, 3, self.source.randint(0, 15), self.source.randint(0, 255), 255, 256])

    def begin(self):
        self.n = self.source.randint(1, 3)
        self.depths = self.source.randint(2, 5)
        smaller = min(self.n, self.depths)
        pin = self.source.choice([1, 1, 2])
        return start(self.n, self.depths, self.near(self.depths - 1), pin, self.near(smaller), self.near(self.n), 5)

    def question(self):
        asked = self.source.choice([leads, found, way, small, needed, through, traps, shut, parts])
        if asked == parts:
            return parts(self.bunch())
        if asked == small:
            return small(self.bunch(), self.near(4), self.near(4), self.near(1))
        if asked in (way, needed, through):
            return asked(self.bunch(), self.near(4), self.near(4))
        return asked(self.bunch(), self.near(4))

    def call(self):
        sort = self.source.choice("kkkcccddddfffhhhuunoooo" + "q" * 18 + "s" * self.begins_again)
        made = {
            "s": self.begin,
            "k": lambda: key(self.letters(), self.row(self.depths - 1)),
            "c": lambda: cylinder(self.letters(), self.row(2 ** self.depths - 1)),
            "d": lambda: door(self.near(4), self.near(4), self.what(), self.what()),
            "f": lambda: fit(self.near(9), self.what()),
            "h": lambda: hang(self.near(6), self.near(4)),
            "u": lambda: unhang(self.near(6)),
            "n": counts,
            "o": lambda: opens(self.near(9)),
            "q": self.question,
        }
        return made[sort]()


class ByChance(unittest.TestCase):
    def test_long_lists_of_calls(self):
        seen = set()
        for seed in range(90):
            chance = Chance(seed)
            chance.begins_again = seed % 3 != 0
            calls = [start(chance.n, chance.depths, 1, 1, 1, 1, 5)] + [chance.call() for place in range(399)]
            telling = Telling()
            expected = [telling.answer(call) for call in calls]
            given = taken_apart(answers(joined(calls)))
            self.assertEqual(given, expected, seed)
            seen |= {(call[0], min(answer[0], 0)) for call, answer in zip(calls, given)}
        # Chance must have come to every refusal, or the lists above say less than they seem to.
        self.assertEqual(seen, set(EVERY_ANSWER))


class Drawn:
    """A house that is drawn: cylinders for one or two keys, sides of every sort, some doors from a room to itself."""

    def __init__(self, seed, rooms, doors, told_keys, cylinders):
        source = random.Random(seed)
        self.rooms = rooms
        self.told_keys = told_keys
        self.turned_by = [source.sample(range(told_keys), source.choice([1, 1, 2])) for place in range(cylinders)]
        share = source.choice([3, 6, 9])
        self.sides = [self.side(source, share) for place in range(2 * doors)]
        self.ends = [(source.randrange(rooms), source.randrange(rooms)) for place in range(doors)]
        self.hooks = {number: source.randrange(rooms) for number in source.sample(range(told_keys), min(told_keys, 4))}
        self.calls = keyed(rooms, told_keys, *self.turned_by)
        for number, (a, b) in enumerate(self.ends):
            self.calls.append(door(a, b, self.sides[2 * number], self.sides[2 * number + 1]))
        self.calls += [hang(number, room) for number, room in self.hooks.items()]

    def side(self, source, share):
        """Locked, share times of ten."""
        if source.randrange(10) < share:
            return locked(source.randrange(len(self.turned_by)))
        return source.choice([FREE, FREE, SHUT])

    def reckoned(self, sort):
        sides = []
        for number, (what, which) in enumerate(self.sides):
            a, b = self.ends[number // 2][::1 - number % 2 * 2]
            sides.append((number, a, b, what == 0, set(self.turned_by[which]) if what == 1 else set()))
        return sort(range(self.rooms), sides, self.hooks)

    def ask(self, *questions):
        return answered(self.calls, *questions)


def small_houses():
    for seed in range(400):
        source = random.Random(seed)
        rooms = source.randint(1, 4)
        yield Drawn(seed, rooms, source.randint(0, 6), source.randint(2, 4), 4)


def large_houses():
    for seed in range(12):
        yield Drawn(seed, 24 if seed % 2 else 16, 24, 8, 16)


class EveryWalkTried(unittest.TestCase):
    """In small houses: each question with each bunch, from each room and to each room."""

    def check(self, asked, rooms_asked, backs=()):
        name = asked.__name__
        seen = set()
        for house in small_houses():
            reckoned = getattr(house.reckoned(EveryWalk), name)
            every = itertools.product(range(house.rooms), repeat=rooms_asked)
            rests = [rest + back for rest in every for back in (backs or [()])]
            for bunch in range(2 ** house.told_keys):
                given = house.ask(*[asked(bunch, *rest) for rest in rests])
                expected = [reckoned(keys_of(bunch), *rest) for rest in rests]
                self.assertEqual(given, expected, (house.calls, bunch))
                seen |= {answer[0] for answer in given}
        return seen

    def test_f1_leads(self):
        self.assertEqual(self.check(leads, 1), {1, 2, 3, 4})

    def test_f2_found(self):
        self.assertEqual(self.check(found, 1), {1, 2, 3, 4})

    def test_f3_the_first_walk(self):
        self.assertEqual(self.check(way, 2), {-3, 0, 1, 2, 3})

    def test_f4_the_smallest_bunch(self):
        self.assertEqual(self.check(small, 2, [(0,), (1,)]), {-3, 0, 1, 2, 3})

    def test_f4_needed(self):
        self.assertLessEqual({-3, 0, 1, 2}, self.check(needed, 2))

    def test_f5_through_every_walk(self):
        self.assertEqual(self.check(through, 2), {-3, 0, 1, 2, 3})

    def test_f6_traps(self):
        self.assertLessEqual({0, 1, 2, 3, 4}, self.check(traps, 1))

    def test_f6_shut(self):
        self.assertEqual(self.check(shut, 1), {0, 1, 2, 3})

    def test_f6_parts(self):
        self.assertEqual(self.check(parts, 0), {1, 2, 3, 4})


class Promises(unittest.TestCase):
    """The promises in their own words, in large houses, of the answers alone."""

    def leads_from(self, house, bunch):
        """For each room to which rooms the bunch leads from it."""
        return [set(answer[1:]) for answer in house.ask(*[leads(bunch, room) for room in range(house.rooms)])]

    def bunches(self, house, seed=0):
        source = random.Random(seed)
        return [0, 255] + [source.randrange(256) for place in range(6)]

    def is_walk(self, house, bunch, r, t, sides):
        here = r
        for number in sides:
            a, b = house.ends[number // 2][::1 - number % 2 * 2]
            what, which = house.sides[number]
            opened = what == 0 or (what == 1 and set(house.turned_by[which]) & set(keys_of(bunch)))
            if here != a or not opened:
                return False
            here = b
        return here == t

    def rooms_of(self, house, r, sides):
        rooms = [r]
        for number in sides:
            rooms.append(house.ends[number // 2][1 - number % 2])
        return rooms

    def test_f1_leads_is_by_walks_and_leads_on(self):
        for house in large_houses():
            for bunch in self.bunches(house):
                led = self.leads_from(house, bunch)
                for r in range(0, house.rooms, 3):
                    self.assertIn(r, led[r])
                    ways = house.ask(*[way(bunch, r, t) for t in range(house.rooms)])
                    self.assertEqual({t for t, answer in enumerate(ways) if answer != [-3]}, led[r])
                    for t in led[r]:
                        self.assertLessEqual(led[t], led[r])

    def test_f1_f2_more_keys_never_less(self):
        for house in large_houses():
            source = random.Random(house.rooms)
            for bunch in self.bunches(house):
                fewer = bunch & source.randrange(256)
                few, many = self.leads_from(house, fewer), self.leads_from(house, bunch)
                asked = [found(one, room) for room in range(house.rooms) for one in (fewer, bunch)]
                given = house.ask(*asked)
                for room in range(house.rooms):
                    self.assertLessEqual(few[room], many[room])
                    less, more = given[2 * room], given[2 * room + 1]
                    self.assertLessEqual(set(less[1:1 + less[0]]), set(more[1:1 + more[0]]))
                    self.assertLessEqual(set(less[1 + less[0]:]), set(more[1 + more[0]:]))
                    self.assertLessEqual(few[room], set(less[1:1 + less[0]]))
                    self.assertLessEqual(set(keys_of(bunch)), set(more[1 + more[0]:]))

    def test_f3_the_first_walk_is_a_walk_that_passes_no_room_twice(self):
        longest = 0
        for house in large_houses():
            for bunch in self.bunches(house):
                for r in range(0, house.rooms, 3):
                    for t, answer in enumerate(house.ask(*[way(bunch, r, t) for t in range(house.rooms)])):
                        if answer == [-3]:
                            continue
                        self.assertEqual(len(answer), 1 + answer[0])
                        self.assertTrue(self.is_walk(house, bunch, r, t, answer[1:]), answer)
                        rooms = self.rooms_of(house, r, answer[1:])
                        self.assertEqual(len(rooms), len(set(rooms)))
                        longest = max(longest, answer[0])
        self.assertGreater(longest, 4)

    def test_f4_the_smallest_bunch_and_the_needed_keys(self):
        most = 0
        for house in large_houses():
            for r, t in itertools.product(range(0, house.rooms, 4), range(1, house.rooms, 5)):
                smallest, needs, whole = house.ask(small(255, r, t), needed(255, r, t), way(255, r, t))
                if whole == [-3]:
                    self.assertEqual((smallest, needs), ([-3], [-3]))
                    continue
                chosen = bits(*smallest[1:])
                less = [chosen ^ bits(number) for number in smallest[1:]]
                self.assertNotEqual(house.ask(way(chosen, r, t)), [[-3]])
                self.assertEqual(house.ask(*[way(bunch, r, t) for bunch in less]), [[-3]] * len(less))
                self.assertLessEqual(set(needs[1:]), set(smallest[1:]))
                most = max(most, len(less))
        self.assertGreater(most, 1)

    def test_f5_a_side_is_passed_by_every_walk_just_if_without_it_there_is_none(self):
        for house in large_houses():
            for r, t in itertools.product(range(0, house.rooms, 5), range(1, house.rooms, 5)):
                passed = house.ask(through(255, r, t))[0]
                if passed == [-3]:
                    continue
                sides = range(len(house.sides))
                without = [answered(house.calls + [fit(side, SHUT)], way(255, r, t)) for side in sides]
                self.assertEqual(passed, told([side for side in sides if without[side] == [[-3]]]))

    def test_f6_no_trap_just_if_it_leads_back_from_everywhere(self):
        seen = set()
        for house in large_houses():
            for bunch in self.bunches(house):
                led = self.leads_from(house, bunch)
                given = house.ask(*[traps(bunch, room) for room in range(house.rooms)])
                for r in range(house.rooms):
                    self.assertEqual(given[r] == [0], all(r in led[t] for t in led[r]))
                    seen.add((given[r] == [0], len(led[r]) > 1))
        self.assertEqual(seen, {(True, True), (True, False), (False, True)})

    def test_f6_parts_and_shut(self):
        for house in large_houses():
            for bunch in self.bunches(house):
                led = self.leads_from(house, bunch)
                rooms = range(house.rooms)
                given = house.ask(parts(bunch), *[shut(bunch, room) for room in rooms])
                least = given[0][1:]
                self.assertEqual(len(least), house.rooms)
                self.assertEqual(given[0][0], len(set(least)))
                for one, other in itertools.product(rooms, rooms):
                    self.assertEqual(least[one] == least[other], one in led[other] and other in led[one])
                for t in rooms:
                    self.assertLessEqual(least[t], t)
                    self.assertEqual(given[1 + t], told([room for room in rooms if t not in led[room]]))

    def test_f7_a_side_fitted_anew_changes_no_other(self):
        for house in large_houses():
            sides = range(len(house.sides))
            before = house.ask(*[opens(side) for side in sides])
            for side in range(0, len(sides), 7):
                for what in (FREE, SHUT, locked(3)):
                    after = house.ask(fit(side, what), *[opens(other) for other in sides])[1:]
                    self.assertEqual(after[:side] + after[side + 1:], before[:side] + before[side + 1:])
                    back = house.ask(fit(side, what), fit(side, house.sides[side]), parts(255), found(0, 0))[2:]
                    self.assertEqual(back, house.ask(parts(255), found(0, 0)))


if __name__ == "__main__":
    unittest.main()
