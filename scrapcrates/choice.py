"""Which melts are the best of those that are as wanted.

Melts are kept by rising numbers, so that of several as good the first has the least number.
"""

from scrapcrates.melts import in_lowest_terms, is_melt, melt_of, wrong_with


def melts_as_wanted(crates, wanted):
    """Give every melt of the crates that is as wanted."""
    found = []
    number = 1
    while is_melt(crates, number):
        melt = melt_of(crates, number)
        if wrong_with(melt, wanted) == 0:
            found.append(melt)
        number += 1
    return found


def of_least_price(melts):
    """Give those of some melts that cost the least."""
    least = min([melt.price for melt in melts])
    return [melt for melt in melts if melt.price == least]


def cheapest(melts):
    """Give those of some melts that cost the least and are the heaviest of these."""
    found = of_least_price(melts)
    heaviest = max([melt.heavy for melt in found])
    return [melt for melt in found if melt.heavy == heaviest]


def distance(melt, thousandths):
    """Give by how many thousandths a melt's copper is less or more, as a fraction in lowest terms."""
    return in_lowest_terms(abs(melt.weighted_copper - thousandths * melt.heavy), melt.heavy)


def is_less(fraction, other):
    """Tell whether one fraction is less than another."""
    return fraction[0] * other[1] < other[0] * fraction[1]


def nearest(melts, thousandths):
    """Give those of some melts whose copper is the nearest and that cost the least of these."""
    least = distance(melts[0], thousandths)
    for melt in melts:
        apart = distance(melt, thousandths)
        if is_less(apart, least):
            least = apart
    return of_least_price([melt for melt in melts if distance(melt, thousandths) == least])


def with_most_crates(melts):
    """Give those of some melts that have the most crates."""
    highest = max([melt.crate_count for melt in melts])
    return [melt for melt in melts if melt.crate_count == highest]
