"""A yard, and what it answers to calls."""

from scrapcrates.choice import cheapest, distance, melts_as_wanted, nearest, with_most_crates
from scrapcrates.melts import WHOLE, Crate, Wanted
from scrapcrates.melts import crate_is_as_told, in_lowest_terms, is_melt, melt_of, wanted_is_as_told, wrong_with

BEGINS = 0
CRATE = 1
CHECK = 2
CHEAP = 3
NEAR = 4
# By the number of the call.
NUMBERS_BEHIND = (6, 4, 1, 0, 1, 0)

NOT_AS_TOLD = -1
NO_ROOM = -5
NOT_AS_WANTED = -6

MOST_CRATES = 8


class Yard:
    """What is wanted of a melt, and the crates that are there."""

    def __init__(self):
        self.wanted = Wanted([1, 200, 0, 1000, 0, 1000])
        self.crates = []

    def begins(self, numbers):
        """Want something else from now on, and clear the crates away."""
        wanted = Wanted(numbers)
        if not wanted_is_as_told(wanted):
            return [NOT_AS_TOLD]
        self.wanted = wanted
        self.crates = []
        return [0]

    def crate(self, numbers):
        """Put a crate behind those that are there."""
        added = Crate(numbers)
        if not crate_is_as_told(added):
            return [NOT_AS_TOLD]
        if len(self.crates) == MOST_CRATES:
            return [NO_ROOM]
        self.crates.append(added)
        return [len(self.crates) - 1]

    def check(self, number):
        """Tell what a melt is like, and what it costs or what is wrong with it."""
        if not is_melt(self.crates, number):
            return [NOT_AS_TOLD]
        melt = melt_of(self.crates, number)
        wrong = wrong_with(melt, self.wanted)
        if wrong > 0:
            return [NOT_AS_WANTED, wrong] + makeup(melt)
        return [melt.price] + makeup(melt)

    def cheap(self):
        """Tell of the cheapest melt what it costs, how heavy it is, how many are as good, and its number."""
        melts = melts_as_wanted(self.crates, self.wanted)
        if len(melts) == 0:
            return [NOT_AS_WANTED]
        as_good = cheapest(melts)
        melt = as_good[0]
        return [melt.price, melt.heavy, len(as_good), melt.number]

    def near(self, thousandths):
        """Tell of the nearest melt how far off it is, what it costs, how many are as good, and its number."""
        if thousandths > WHOLE:
            return [NOT_AS_TOLD]
        melts = melts_as_wanted(self.crates, self.wanted)
        if len(melts) == 0:
            return [NOT_AS_WANTED]
        as_good = nearest(melts, thousandths)
        melt = as_good[0]
        return [0] + distance(melt, thousandths) + [melt.price, len(as_good), melt.number]

    def most(self):
        """Tell of the melt with the most crates how many these are, and its number."""
        melts = melts_as_wanted(self.crates, self.wanted)
        if len(melts) == 0:
            return [NOT_AS_WANTED]
        melt = with_most_crates(melts)[0]
        return [melt.crate_count, melt.number]


def makeup(melt):
    """Give how heavy a melt is, then its copper and its zinc."""
    copper = in_lowest_terms(melt.weighted_copper, melt.heavy)
    zinc = in_lowest_terms(melt.weighted_zinc, melt.heavy)
    return [melt.heavy] + copper + zinc


def answer_to(yard, call, numbers):
    """Hand one call on to the yard."""
    if call == BEGINS:
        return yard.begins(numbers)
    if call == CRATE:
        return yard.crate(numbers)
    if call == CHECK:
        return yard.check(numbers[0])
    if call == CHEAP:
        return yard.cheap()
    if call == NEAR:
        return yard.near(numbers[0])
    return yard.most()


def answers(calls):
    """Answer calls, laid in one list, about a new yard: before each answer stands its length."""
    yard = Yard()
    told = []
    place = 0
    while place < len(calls):
        call = calls[place]
        end = place + 1 + NUMBERS_BEHIND[call]
        answer = answer_to(yard, call, calls[place + 1:end])
        told.append(len(answer))
        told.extend(answer)
        place = end
    return told
