"""What cheap, near and most have in common: they change nothing, and no melt is better than theirs."""

import random
import unittest
from fractions import Fraction
from itertools import combinations

from yardcalls import ANY_MELT, LARGEST, answered, begins, cheap, check, crate, most, near, yard

ORDINARY = (50, 90, 600, 700, 250, 350)
CRATES = ((40, 650, 300, 12), (30, 580, 390, 9), (20, 700, 250, 14), (5, 610, 310, 3))
NONE_AS_WANTED = (96, 1000, 600, 700, 250, 350)


class AllIsAsItWas(unittest.TestCase):
    def told_by(self, wanted, crates, call):
        """Give what is answered to the call, once all else was seen to be answered alike before and after it."""
        checks = [check(melt) for melt in range(1 << len(crates) + 1)]
        for looks in (checks[:16], checks[16:], [cheap(), near(640), most()]):
            told = answered(*yard(wanted, crates), *looks, call, *looks, call, crate(7, 8, 9, 10))
            told = told[1 + len(crates):]
            size = len(looks)
            self.assertEqual(told[:size], told[size + 1:2 * size + 1])
            self.assertEqual(told[size], told[2 * size + 1])
            self.assertEqual(told[-1], [len(crates)])
        return told[size]

    def test_after_an_answer(self):
        for call, answer in (
            (cheap(), [21, 70, 1, 3]), (near(640), [0, 20, 9, 35, 1, 7]), (near(0), [0, 1858, 3, 24, 1, 11]),
            (near(1000), [0, 1000, 3, 26, 1, 5]), (most(), [3, 7]),
        ):
            with self.subTest(call):
                self.assertEqual(self.told_by(ORDINARY, CRATES, call), answer)

    def test_after_a_number_not_as_told(self):
        for thousandths in (1001, LARGEST):
            with self.subTest(thousandths):
                self.assertEqual(self.told_by(ORDINARY, CRATES, near(thousandths)), [-1])
                self.assertEqual(self.told_by(NONE_AS_WANTED, CRATES, near(thousandths)), [-1])

    def test_after_none_was_as_wanted(self):
        for call in (cheap(), near(640), most()):
            with self.subTest(call):
                self.assertEqual(self.told_by(NONE_AS_WANTED, CRATES, call), [-6])

    def test_after_there_was_no_crate(self):
        for call in (cheap(), near(640), most()):
            with self.subTest(call):
                told = answered(call, check(1), crate(200, 650, 300, 12), check(1), call, crate(1, 0, 0, 13), check(3))
                self.assertEqual(told[:4], [[-6], [-1], [0], [12, 200, 650, 1, 300, 1]])
                self.assertEqual(told[5:], [[1], [-6, 1, 201, 130000, 201, 20000, 67]])

    def test_one_does_not_change_what_another_is_answered(self):
        calls = (cheap(), near(640), most(), near(1001), most(), cheap(), near(640), cheap())
        told = answered(*yard(ORDINARY, CRATES), *calls)[5:]
        cheapest, nearest, largest = [21, 70, 1, 3], [0, 20, 9, 35, 1, 7], [3, 7]
        self.assertEqual(told, [cheapest, nearest, largest, [-1], largest, cheapest, nearest, cheapest])


class AfterBegins(unittest.TestCase):
    def test_they_speak_of_the_new_crates_alone(self):
        three = (cheap(), near(640), most())
        told = answered(*yard(ANY_MELT, [(100, 640, 0, 0)] * 8), *three,
                        begins(*ANY_MELT), cheap(),
                        crate(10, 600, 0, 5), crate(20, 660, 0, 6), *three)
        self.assertEqual(told[9:12], [[0, 800, 1, 255], [0, 0, 1, 0, 255, 1], [8, 255]])
        self.assertEqual(told[12:16], [[0], [-6], [0], [1]])
        self.assertEqual(told[16:], [[5, 10, 1, 1], [0, 0, 1, 11, 1, 3], [2, 3]])

    def test_they_go_by_what_is_wanted_anew(self):
        told = answered(*yard(ORDINARY, CRATES), *yard((1, 50, 610, 700, 0, 1000), CRATES), cheap(), near(640), most())
        self.assertEqual(told[10:], [[3, 5, 1, 8], [0, 50, 9, 15, 1, 9], [2, 6]])

    def test_they_go_by_what_was_wanted_once_begins_is_refused(self):
        told = answered(*yard(ORDINARY, CRATES), begins(2, 1, 0, 1000, 0, 1000), cheap(), near(640), most())
        self.assertEqual(told[5:], [[-1], [21, 70, 1, 3], [0, 20, 9, 35, 1, 7], [3, 7]])

    def test_a_refused_crate_is_not_melted(self):
        told = answered(*yard(ANY_MELT, [(10, 600, 0, 5)] * 8), crate(20, 640, 0, 0), cheap(), near(640), most())
        self.assertEqual(told[9:], [[-5], [5, 10, 8, 1], [0, 40, 1, 5, 8, 1], [8, 255]])
        told = answered(crate(10, 600, 0, 5), crate(20, 640, 361, 0), cheap(), near(640), most())
        self.assertEqual(told, [[0], [-1], [5, 10, 1, 1], [0, 40, 1, 5, 1, 1], [1, 1]])


def melts_as_wanted(wanted, crates):
    """Give every melt that's as wanted, greater numbers not always behind smaller ones: its number, crates and all."""
    found = []
    for size in range(len(crates), 0, -1):
        for places in combinations(range(len(crates)), size):
            chosen = [crates[place] for place in places]
            heavy = sum(numbers[0] for numbers in chosen)
            copper = sum(Fraction(numbers[0] * numbers[1], heavy) for numbers in chosen)
            zinc = sum(Fraction(numbers[0] * numbers[2], heavy) for numbers in chosen)
            amounts = zip((heavy, copper, zinc), wanted[::2], wanted[1::2])
            if all(least <= amount <= highest for amount, least, highest in amounts):
                price = sum(numbers[3] for numbers in chosen)
                found.append((sum(2 ** place for place in places), size, heavy, copper, price))
    return found


def best(melts, rank):
    """Give those melts of which no other's rank is less, the least number first."""
    least = min(rank(melt) for melt in melts)
    return sorted(melt for melt in melts if rank(melt) == least)


def reckoned(melts, thousandths):
    """Answer cheap, most, and near to each of the thousandths, in another way than the program does."""
    if not melts:
        return [[-6]] * (2 + len(thousandths))
    as_cheap = best(melts, lambda melt: (melt[4], -melt[2]))
    number, _, heavy, _, price = as_cheap[0]
    told = [[price, heavy, len(as_cheap), number]]
    number, size, _, _, _ = best(melts, lambda melt: -melt[1])[0]
    told.append([size, number])
    for wished in thousandths:
        as_near = best(melts, lambda melt: (abs(melt[3] - wished), melt[4]))
        number, _, _, copper, price = as_near[0]
        apart = abs(copper - wished)
        told.append([0, apart.numerator, apart.denominator, price, len(as_near), number])
    return told


class EveryMelt(unittest.TestCase):
    def compare(self, wanted, crates, thousandths):
        melts = melts_as_wanted(wanted, crates)
        told = answered(*yard(wanted, crates), cheap(), most(), *[near(wished) for wished in thousandths])
        told = told[1 + len(crates):]
        self.assertEqual(told, reckoned(melts, thousandths), (wanted, crates, thousandths))
        return told

    def note(self, seen, told):
        """Count what kinds of answers there were, so that the yards are seen to bring all of them."""
        for kind, is_there in (
            ("refused", told[0] == [-6]),
            ("one as cheap", told[0][2:3] == [1]),
            ("several as cheap", told[0][2:3] > [1]),
            ("all crates but one at most", told[1][0] > 6),
            ("one as near", any(answer[4:5] == [1] for answer in told[2:])),
            ("several as near", any(answer[4:5] > [1] for answer in told[2:])),
            ("exact", any(answer[1:3] == [0, 1] for answer in told[2:])),
            ("not whole", any(answer[2:3] > [1] for answer in told[2:])),
        ):
            seen[kind] = seen.get(kind, 0) + is_there

    def check_seen(self, seen, without=()):
        for kind, times in seen.items():
            if kind not in without:
                self.assertGreater(times, 0, kind)

    def test_of_small_yards(self):
        chance = random.Random(3)
        seen = {}
        for _ in range(600):
            least = chance.randint(1, 6)
            copper = chance.randint(0, 4)
            zinc = chance.randint(0, 2)
            wanted = (least, chance.randint(least, 12), copper, chance.randint(copper, 6),
                      zinc, chance.randint(zinc, 6))
            crates = [(chance.randint(1, 4), chance.randint(0, 6), chance.randint(0, 6), chance.randint(0, 2))
                      for _ in range(chance.randint(0, 4))]
            thousandths = [chance.randint(0, 6) for _ in range(6)]
            self.note(seen, self.compare(wanted, crates, thousandths))
        self.check_seen(seen, without=("all crates but one at most",))

    def test_of_eight_crates_with_equal_numbers(self):
        chance = random.Random(5)
        seen = {}
        for _ in range(120):
            kinds = [(chance.randint(1, 3) * 20, chance.randint(5, 7) * 100, chance.randint(1, 3) * 100,
                      chance.randint(0, 2) * 10) for _ in range(chance.randint(1, 4))]
            crates = [chance.choice(kinds) for _ in range(8)]
            least = chance.randint(1, 300)
            copper = chance.randint(0, 620)
            wanted = (least, chance.randint(least, 1000), copper, chance.randint(copper, 1000), 0,
                      chance.choice((220, 250, 1000)))
            thousandths = [0, 550, 600, 650, chance.randint(0, 1000), 1000]
            self.note(seen, self.compare(wanted, crates, thousandths))
        self.check_seen(seen)

    def test_of_eight_crates_of_any_kind(self):
        chance = random.Random(8)
        seen = {}
        for _ in range(60):
            wanted = []
            for lowest, highest in ((1, 1000), (0, 700), (0, 700)):
                wanted += sorted((chance.randint(lowest, highest), chance.randint(lowest, highest)))
            crates = []
            for _ in range(8):
                copper = chance.randint(0, 1000)
                crates.append((chance.randint(1, 200), copper, chance.randint(0, 1000 - copper),
                               chance.randint(0, 1000)))
            thousandths = [chance.randint(0, 1000) for _ in range(6)]
            self.note(seen, self.compare(wanted, crates, thousandths))
        self.check_seen(seen, without=("several as cheap", "several as near", "exact"))


if __name__ == "__main__":
    unittest.main()
