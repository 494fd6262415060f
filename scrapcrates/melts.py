"""Crates, what is wanted of a melt, and what crates make when they are melted together."""

HEAVIEST_CRATE = 200
HEAVIEST_WANTED = 1000
WHOLE = 1000
HIGHEST_PRICE = 1000


class Wanted:
    """How heavy a melt is to be, and how many thousandths copper and zinc: each at least and at most."""

    def __init__(self, numbers):
        self.heavy = (numbers[0], numbers[1])
        self.copper = (numbers[2], numbers[3])
        self.zinc = (numbers[4], numbers[5])


class Crate:
    """How heavy a crate is, how many thousandths of it are copper and zinc, and its price."""

    def __init__(self, numbers):
        self.heavy = numbers[0]
        self.copper = numbers[1]
        self.zinc = numbers[2]
        self.price = numbers[3]


class Melt:
    """Several crates together, and the number that names them."""

    def __init__(self, number, crates):
        self.number = number
        self.crate_count = len(crates)
        self.heavy = sum([crate.heavy for crate in crates])
        self.price = sum([crate.price for crate in crates])
        # Left undivided by the weight, because thousandths of a melt need not be whole.
        self.weighted_copper = sum([crate.heavy * crate.copper for crate in crates])
        self.weighted_zinc = sum([crate.heavy * crate.zinc for crate in crates])


def limits_are_as_told(limits, lowest, highest):
    """Tell whether at least and at most are in their range and in their order."""
    return lowest <= limits[0] <= limits[1] <= highest


def wanted_is_as_told(wanted):
    """Tell whether a yard may want this of a melt."""
    return (limits_are_as_told(wanted.heavy, 1, HEAVIEST_WANTED)
            and limits_are_as_told(wanted.copper, 0, WHOLE)
            and limits_are_as_told(wanted.zinc, 0, WHOLE))


def crate_is_as_told(crate):
    """Tell whether a yard may have this crate."""
    return (1 <= crate.heavy <= HEAVIEST_CRATE
            and crate.copper + crate.zinc <= WHOLE
            and crate.price <= HIGHEST_PRICE)


def is_melt(crates, number):
    """Tell whether a number names a crate at least, and none that isn't there."""
    return number > 0 and number >> len(crates) == 0


def melt_of(crates, number):
    """Melt the crates that the number of a melt names."""
    return Melt(number, [crate for place, crate in enumerate(crates) if (number >> place) & 1 == 1])


def within(weighted, weight, limits):
    """Tell whether weighted, divided by weight, keeps to the limits."""
    # The limits are multiplied instead, because a whole division would lose its rest.
    return limits[0] * weight <= weighted <= limits[1] * weight


def wrong_with(melt, wanted):
    """Give the number of the first thing that is wrong with a melt, 0 if it is as wanted."""
    if not within(melt.heavy, 1, wanted.heavy):
        return 1
    if not within(melt.weighted_copper, melt.heavy, wanted.copper):
        return 2
    if not within(melt.weighted_zinc, melt.heavy, wanted.zinc):
        return 3
    return 0


def in_lowest_terms(above, below):
    """Give a fraction in lowest terms, as a list of what stands above and below; 0 as 0 and 1."""
    divisor = below
    rest = above
    while rest > 0:
        following = divisor % rest
        divisor = rest
        rest = following
    return [above // divisor, below // divisor]
