"""What the tests share: calls as lists of numbers, and answers taken apart again."""

from scrapcrates.yard import answers

LARGEST = 4294967295
ANY_MELT = (1, 1000, 0, 1000, 0, 1000)


def begins(*numbers):
    assert len(numbers) == 6
    return [0, *numbers]


def crate(*numbers):
    assert len(numbers) == 4
    return [1, *numbers]


def check(melt):
    return [2, melt]


def cheap():
    return [3]


def near(thousandths):
    return [4, thousandths]


def most():
    return [5]


def yard(wanted, crates):
    """Give the calls that make a yard."""
    return [begins(*wanted), *[crate(*numbers) for numbers in crates]]


def answered(*calls):
    """Ask the calls about one yard and give a list for each of them."""
    told = answers([number for call in calls for number in call])
    apart = []
    place = 0
    while place < len(told):
        end = place + 1 + told[place]
        apart.append(told[place + 1:end])
        place = end
    assert place == len(told), told
    assert len(apart) == len(calls), told
    return apart


def last(*calls):
    """Ask the calls about one yard and give what the last of them is answered."""
    return answered(*calls)[-1]
