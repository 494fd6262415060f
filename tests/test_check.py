"""What promise 2 says of check."""

import random
import unittest
from fractions import Fraction

from yardcalls import ANY_MELT, LARGEST, answered, begins, check, crate, last


def checked(wanted, crates, melt):
    """Ask what a melt of these crates is answered."""
    return last(begins(*wanted), *[crate(*numbers) for numbers in crates], check(melt))


class AsWanted(unittest.TestCase):
    def test_one_crate(self):
        self.assertEqual(checked((50, 90, 600, 700, 250, 350), [(60, 650, 300, 12)], 1), [12, 60, 650, 1, 300, 1])

    def test_several_crates(self):
        # 40 of 650 and 20 of 500 are 36000 in 60; 40 of 300 and 20 of 450 are 21000.
        crates = [(40, 650, 300, 12), (99, 0, 0, 500), (20, 500, 450, 7)]
        self.assertEqual(checked((60, 60, 600, 600, 350, 350), crates, 5), [19, 60, 600, 1, 350, 1])

    def test_each_crate_stands_for_its_power_of_two(self):
        crates = [(n + 1, 100 * n, 1000 - 100 * n, 10 * n) for n in range(8)]
        for n in range(8):
            with self.subTest(n):
                told = checked(ANY_MELT, crates, 2 ** n)
                self.assertEqual(told, [10 * n, n + 1, 100 * n, 1, 1000 - 100 * n, 1])

    def test_the_eight_together(self):
        crates = [(n + 1, 100 * n, 1000 - 100 * n, 10 * n) for n in range(8)]
        # 100 times 1*0 + 2*1 + .. + 8*7 is 16800, in 36.
        self.assertEqual(checked(ANY_MELT, crates, 255), [280, 36, 1400, 3, 1600, 3])

    def test_the_eight_at_their_largest(self):
        crates = [(200, 1000, 0, 1000)] * 8
        wanted = (1, 1000, 1000, 1000, 0, 0)
        self.assertEqual(checked(wanted, crates, 31), [5000, 1000, 1000, 1, 0, 1])
        self.assertEqual(checked(wanted, crates, 255), [-6, 1, 1600, 1000, 1, 0, 1])

    def test_a_price_of_nothing(self):
        self.assertEqual(checked(ANY_MELT, [(60, 650, 300, 0)], 1), [0, 60, 650, 1, 300, 1])

    def test_changes_nothing(self):
        told = answered(crate(40, 650, 300, 12), crate(20, 500, 450, 7), check(3), check(0), check(3), check(1))
        self.assertEqual(told[2:], [
            [19, 60, 600, 1, 350, 1], [-1], [19, 60, 600, 1, 350, 1], [12, 40, 650, 1, 300, 1]])


class Fractions(unittest.TestCase):
    def test_not_whole(self):
        # 1 of 2, 2 of 3 make 8 in 3 of copper; 1 of 5, 2 of 1 make 7 in 3 of zinc.
        self.assertEqual(checked(ANY_MELT, [(1, 2, 5, 1), (2, 3, 1, 1)], 3), [2, 3, 8, 3, 7, 3])

    def test_in_lowest_terms(self):
        # 30 of 650 and 10 of 500 are 24500 in 40; 30 of 301 and 10 of 450 are 13530 in 40.
        self.assertEqual(checked(ANY_MELT, [(30, 650, 301, 1), (10, 500, 450, 1)], 3), [2, 40, 1225, 2, 1353, 4])

    def test_less_than_one(self):
        self.assertEqual(checked(ANY_MELT, [(199, 0, 0, 1), (1, 1, 2, 1)], 3), [2, 200, 1, 200, 1, 100])

    def test_nothing_is_0_and_1(self):
        self.assertEqual(checked(ANY_MELT, [(60, 0, 0, 1), (7, 0, 0, 1)], 3), [2, 67, 0, 1, 0, 1])
        self.assertEqual(checked(ANY_MELT, [(60, 0, 1000, 1)], 1), [1, 60, 0, 1, 1000, 1])
        self.assertEqual(checked(ANY_MELT, [(60, 1000, 0, 1)], 1), [1, 60, 1000, 1, 0, 1])

    def test_also_when_something_is_wrong(self):
        told = checked((4, 1000, 0, 1000, 0, 1000), [(1, 2, 0, 1), (2, 3, 0, 1)], 3)
        self.assertEqual(told, [-6, 1, 3, 8, 3, 0, 1])


class Wrong(unittest.TestCase):
    def verdict(self, wanted, crates, melt):
        """Give what is wrong, 0 for nothing; what stands behind it is looked at too."""
        told = checked(wanted, crates, melt)
        self.assertEqual(len(told), 7 if told[0] == -6 else 6)
        return told[1] if told[0] == -6 else 0

    def test_too_light_or_too_heavy(self):
        for heavy, wrong in ((49, 1), (50, 0), (90, 0), (91, 1)):
            with self.subTest(heavy):
                self.assertEqual(self.verdict((50, 90, 0, 1000, 0, 1000), [(heavy, 650, 300, 5)], 1), wrong)

    def test_the_weight_is_that_of_all(self):
        wanted = (50, 90, 0, 1000, 0, 1000)
        self.assertEqual(self.verdict(wanted, [(45, 0, 0, 5), (45, 0, 0, 5)], 3), 0)
        self.assertEqual(self.verdict(wanted, [(46, 0, 0, 5), (45, 0, 0, 5)], 3), 1)
        self.assertEqual(self.verdict(wanted, [(25, 0, 0, 5), (25, 0, 0, 5)], 3), 0)
        self.assertEqual(self.verdict(wanted, [(25, 0, 0, 5), (24, 0, 0, 5)], 3), 1)

    def test_a_thousand_is_the_heaviest_that_can_be_wanted(self):
        crates = [(200, 0, 0, 0)] * 5 + [(1, 0, 0, 0)]
        self.assertEqual(self.verdict(ANY_MELT, crates, 31), 0)
        self.assertEqual(self.verdict(ANY_MELT, crates, 63), 1)

    def test_too_little_or_too_much_copper(self):
        for copper, wrong in ((599, 2), (600, 0), (700, 0), (701, 2)):
            with self.subTest(copper):
                self.assertEqual(self.verdict((1, 200, 600, 700, 0, 1000), [(60, copper, 100, 5)], 1), wrong)

    def test_too_little_or_too_much_zinc(self):
        for zinc, wrong in ((249, 3), (250, 0), (350, 0), (351, 3)):
            with self.subTest(zinc):
                self.assertEqual(self.verdict((1, 200, 0, 1000, 250, 350), [(60, 100, zinc, 5)], 1), wrong)

    def test_less_than_a_thousandth_beside_the_edge(self):
        for other, wrong in ((499, True), (500, False), (501, True)):
            with self.subTest(other):
                copper = [(199, 500, 0, 5), (1, other, 0, 5)]
                zinc = [(199, 0, 500, 5), (1, 0, other, 5)]
                self.assertEqual(self.verdict((1, 200, 500, 500, 0, 1000), copper, 3), 2 if wrong else 0)
                self.assertEqual(self.verdict((1, 200, 0, 1000, 500, 500), zinc, 3), 3 if wrong else 0)

    def test_above_the_edge_by_less_than_a_thousandth(self):
        self.assertEqual(self.verdict((1, 200, 400, 500, 0, 0), [(199, 500, 0, 5), (1, 501, 0, 5)], 3), 2)
        self.assertEqual(self.verdict((1, 200, 400, 501, 0, 0), [(199, 500, 0, 5), (1, 501, 0, 5)], 3), 0)
        self.assertEqual(self.verdict((1, 200, 0, 0, 400, 500), [(199, 0, 500, 5), (1, 0, 501, 5)], 3), 3)
        self.assertEqual(self.verdict((1, 200, 0, 0, 400, 501), [(199, 0, 500, 5), (1, 0, 501, 5)], 3), 0)

    def test_of_several_the_first(self):
        wanted = (50, 90, 600, 700, 250, 350)
        for numbers, wrong in (
            ((49, 599, 300, 5), 1), ((91, 701, 290, 5), 1), ((49, 650, 249, 5), 1), ((91, 600, 351, 5), 1),
            ((50, 599, 249, 5), 2), ((90, 599, 351, 5), 2), ((50, 701, 249, 5), 2),
            ((49, 599, 249, 5), 1), ((91, 701, 249, 5), 1), ((91, 0, 0, 5), 1), ((91, 0, 1000, 5), 1),
        ):
            with self.subTest(numbers):
                heavy, copper, zinc, _ = numbers
                self.assertEqual(checked(wanted, [numbers], 1), [-6, wrong, heavy, copper, 1, zinc, 1])


    def test_leaves_all_as_it_was(self):
        told = answered(begins(50, 90, 600, 700, 250, 350), crate(60, 650, 300, 5), crate(40, 650, 300, 6),
                        check(3), check(1), check(2), check(3))
        wrong = [-6, 1, 100, 650, 1, 300, 1]
        self.assertEqual(told[3:], [wrong, [5, 60, 650, 1, 300, 1], [-6, 1, 40, 650, 1, 300, 1], wrong])


class Refused(unittest.TestCase):
    def test_no_crate_in_the_melt(self):
        self.assertEqual(last(check(0)), [-1])
        self.assertEqual(last(crate(40, 650, 300, 12), check(0)), [-1])
        self.assertEqual(last(*[crate(40, 650, 300, 12)] * 8, check(0)), [-1])

    def test_no_crate_at_all(self):
        for melt in (0, 1, 2, 128, 255, 256, LARGEST):
            with self.subTest(melt):
                self.assertEqual(last(check(melt)), [-1])

    def test_a_crate_that_is_not_there(self):
        three = [crate(40, 650, 300, 12)] * 3
        for melt in (8, 16, 128, 256, 2 ** 31):
            with self.subTest(melt):
                self.assertEqual(last(*three, check(melt)), [-1])

    def test_also_among_crates_that_are_there(self):
        three = [crate(40, 650, 300, 12)] * 3
        for melt in (9, 15, 18, 23, 135, 255, 257, 2 ** 31 + 7, LARGEST):
            with self.subTest(melt):
                self.assertEqual(last(*three, check(melt)), [-1])

    def test_a_ninth_among_eight(self):
        eight = [crate(10, 650, 300, 12)] * 8
        for melt in (256, 257, 511, 512, LARGEST):
            with self.subTest(melt):
                self.assertEqual(last(*eight, check(melt)), [-1])

    def test_before_anything_that_is_wrong(self):
        self.assertEqual(last(begins(1, 1, 0, 0, 0, 0), crate(40, 650, 300, 12), check(3)), [-1])


def by_fractions(wanted, crates, melt):
    """Answer check in another way than the program does."""
    chosen = [crates[n] for n in range(8) if melt & 2 ** n]
    heavy = sum(numbers[0] for numbers in chosen)
    copper = sum(Fraction(numbers[0], heavy) * numbers[1] for numbers in chosen)
    zinc = sum(Fraction(numbers[0], heavy) * numbers[2] for numbers in chosen)
    behind = [heavy, copper.numerator, copper.denominator, zinc.numerator, zinc.denominator]
    for wrong, amount in ((1, heavy), (2, copper), (3, zinc)):
        if amount < wanted[2 * wrong - 2] or amount > wanted[2 * wrong - 1]:
            return [-6, wrong] + behind
    return [sum(numbers[3] for numbers in chosen)] + behind


class EveryMelt(unittest.TestCase):
    def test_of_many_yards_of_eight(self):
        chance = random.Random(8)
        seen = {}
        for _ in range(40):
            wanted = []
            for lowest, highest in ((1, 1000), (0, 600), (0, 600)):
                wanted += sorted((chance.randint(lowest, highest), chance.randint(lowest, highest)))
            crates = []
            for _ in range(8):
                copper = chance.randint(0, 1000)
                crates.append((chance.randint(1, 200), copper, chance.randint(0, 1000 - copper),
                               chance.randint(0, 1000)))
            for first in range(1, 256, 51):
                melts = range(first, min(first + 51, 256))
                told = answered(begins(*wanted), *[crate(*numbers) for numbers in crates],
                                *[check(melt) for melt in melts])
                for melt, answer in zip(melts, told[9:]):
                    self.assertEqual(answer, by_fractions(wanted, crates, melt), (wanted, crates, melt))
                    verdict = answer[1] if answer[0] == -6 else 0
                    seen[verdict] = seen.get(verdict, 0) + 1
        self.assertEqual(sorted(seen), [0, 1, 2, 3])


if __name__ == "__main__":
    unittest.main()
