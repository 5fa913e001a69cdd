"""Makes, keys and cylinders: what each of them is, and when a key turns a cylinder."""

CHAMBERS_MOST = 7
DEPTHS_LEAST = 2
DEPTHS_MOST = 10
CHAMBER_DEPTHS_MOST = 6
# 2^26: from here on a number is no set of the 26 letters.
LETTER_SETS = 67108864


class Make:
    def __init__(self, chambers, depths, step, pin, kinds, run):
        self.chambers = chambers
        self.depths = depths
        self.step = step
        self.pin = pin
        self.kinds = kinds
        self.run = run


class Key:
    def __init__(self, grooves, cuts):
        self.grooves = grooves
        self.cuts = cuts


class Cylinder:
    def __init__(self, wards, depth_sets):
        self.wards = wards
        self.depth_sets = depth_sets


def within(number, least, greatest):
    return least <= number and number <= greatest


def is_make(make):
    return (
        within(make.chambers, 1, CHAMBERS_MOST)
        and within(make.depths, DEPTHS_LEAST, DEPTHS_MOST)
        and within(make.step, 1, make.depths - 1)
        and within(make.pin, 1, make.depths - 1)
        and within(make.kinds, 1, min(make.chambers, make.depths))
        and within(make.run, 1, make.chambers)
    )


def has_bit(bits, place):
    return ((bits >> place) & 1) == 1


def depths_in(depth_set, depths):
    """The depths of a set, rising; those from depths on are not looked for."""
    return [depth for depth in range(depths) if has_bit(depth_set, depth)]


def is_pin_apart(rising, pin):
    return all([higher - lower >= pin for lower, higher in zip(rising, rising[1:])])


def is_depth_set(make, depth_set):
    if depth_set >> make.depths != 0:
        return False
    rising = depths_in(depth_set, make.depths)
    return within(len(rising), 1, CHAMBER_DEPTHS_MOST) and is_pin_apart(rising, make.pin)


def is_key(make, key):
    return (
        len(key.cuts) == make.chambers
        and all([cut < make.depths for cut in key.cuts])
        and key.grooves < LETTER_SETS
    )


def is_cylinder(make, cylinder):
    return (
        len(cylinder.depth_sets) == make.chambers
        and all([is_depth_set(make, depth_set) for depth_set in cylinder.depth_sets])
        and cylinder.wards < LETTER_SETS
    )


def turns(key, cylinder):
    """Whether the key turns the cylinder; both are of one make."""
    if (key.grooves & cylinder.wards) != cylinder.wards:
        return False
    return all([has_bit(depth_set, cut) for cut, depth_set in zip(key.cuts, cylinder.depth_sets)])
