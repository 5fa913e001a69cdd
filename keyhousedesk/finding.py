"""Going about with what is found: the one place that looks at what hangs."""

from keyhousedesk.walks import passes


def hung_by_room(house):
    """For each room the keys that hang there, by bits."""
    hung = [0 for room in range(house.rooms)]
    for key, room in house.hanging.items():
        hung[room] = hung[room] | (1 << key)
    return hung


def states_from(by_room, hung, bunch, start):
    """Every pair of a room one can come to and the keys one can have there, where all that hangs is taken.

    To take less never leads to more. What was taken behind a trap doesn't count before it, so a room and the keys
    that one has in it go together.
    """
    first = (start, bunch | hung[start])
    seen = {first: True}
    waiting = [first]
    while len(waiting) > 0:
        state = waiting.pop()
        having = state[1]
        for passage in by_room[state[0]]:
            behind = (passage.behind, having | hung[passage.behind])
            if behind not in seen and passes(having, passage):
                seen[behind] = True
                waiting.append(behind)
    return list(seen)


def rooms_of_states(states):
    return sorted(set([state[0] for state in states]))


def keys_of_states(states):
    """All keys, by bits, that are come by in one state or another."""
    together = 0
    for state in states:
        together = together | state[1]
    return together
