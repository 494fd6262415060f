"""What promise 2 and the words say of near."""

import unittest

from yardcalls import ANY_MELT, LARGEST, answered, begins, check, crate, last, near, yard

# Only the crates 0 and 1, the crates 2 and 3, and all four have 200 of zinc, and all of these have 308/3 of copper.
THREE_MELTS_WITH_A_THIRD = ((1, 102, 0), (2, 103, 300), (2, 102, 0), (4, 103, 300))
ZINC_200 = (1, 1000, 0, 1000, 200, 200)


def nearest(wanted, crates, thousandths):
    """Ask for the melt of these crates that is nearest to so much copper."""
    return last(*yard(wanted, crates), near(thousandths))


def with_prices(crates, prices):
    """Give the crates with a price each."""
    return [(*numbers, price) for numbers, price in zip(crates, prices)]


class LeastDistance(unittest.TestCase):
    def test_ordinary(self):
        crates = [(40, 650, 300, 12), (30, 580, 390, 9), (20, 700, 250, 14)]
        self.assertEqual(nearest((30, 40, 500, 800, 0, 1000), crates, 640), [0, 10, 1, 12, 1, 1])
        self.assertEqual(nearest((30, 40, 500, 800, 0, 1000), crates, 600), [0, 20, 1, 9, 1, 2])

    def test_a_single_crate(self):
        self.assertEqual(nearest(ANY_MELT, [(60, 650, 300, 12)], 643), [0, 7, 1, 12, 1, 1])
        self.assertEqual(nearest(ANY_MELT, [(60, 650, 300, 12)], 657), [0, 7, 1, 12, 1, 1])

    def test_dearer_but_nearer(self):
        crates = [(20, 641, 0, 1), (20, 640, 0, 1000)]
        self.assertEqual(nearest((1, 20, 0, 1000, 0, 0), crates, 640), [0, 0, 1, 1000, 1, 2])

    def test_nearer_by_less_than_a_thousandth(self):
        # 199 of 500 and 1 of 501 are 500 1/200; 100 of each are 500 1/2.
        crates = [(199, 500, 0, 9), (1, 501, 0, 9), (100, 500, 0, 1), (100, 501, 0, 1)]
        self.assertEqual(nearest((200, 200, 0, 1000, 0, 0), crates, 500), [0, 1, 200, 18, 1, 3])
        self.assertEqual(nearest((200, 200, 0, 1000, 0, 0), crates, 501), [0, 1, 2, 2, 1, 12])

    def test_nearer_though_farther_before_it_is_divided_by_the_weight(self):
        # The copper of 200 of 648 is off by 400 in the whole, that of 1 of 647 by 3.
        crates = [(1, 647, 0, 5), (200, 648, 0, 5)]
        self.assertEqual(nearest((1, 200, 0, 1000, 0, 0), crates, 650), [0, 2, 1, 5, 1, 2])

    def test_more_counts_as_much_as_less(self):
        crates = [(20, 630, 0, 5), (20, 649, 0, 5)]
        self.assertEqual(nearest((1, 20, 0, 1000, 0, 0), crates, 640), [0, 9, 1, 5, 1, 2])
        crates = [(20, 631, 0, 5), (20, 650, 0, 5)]
        self.assertEqual(nearest((1, 20, 0, 1000, 0, 0), crates, 640), [0, 9, 1, 5, 1, 1])

    def test_zinc_does_not_matter(self):
        crates = [(20, 600, 400, 5), (20, 601, 0, 5)]
        self.assertEqual(nearest((1, 20, 0, 1000, 0, 1000), crates, 601), [0, 0, 1, 5, 1, 2])

    def test_together_nearer_than_alone(self):
        crates = [(20, 600, 0, 5), (20, 640, 0, 7)]
        self.assertEqual(nearest(ANY_MELT, crates, 621), [0, 1, 1, 12, 1, 3])

    def test_the_eight_crates(self):
        # 100 times 1*0 + 2*1 + .. + 8*7 is 16800, in 36; only all together weigh so much.
        crates = [(n + 1, 100 * n, 1000 - 100 * n, 10 * n) for n in range(8)]
        self.assertEqual(nearest((36, 1000, 0, 1000, 0, 1000), crates, 467), [0, 1, 3, 280, 1, 255])

    def test_before_any_begins(self):
        told = last(crate(200, 600, 0, 9), crate(100, 500, 0, 4), near(550))
        self.assertEqual(told, [0, 50, 1, 4, 1, 2])


class Fraction(unittest.TestCase):
    def test_exactly_so_many(self):
        self.assertEqual(nearest(ANY_MELT, [(60, 650, 300, 12)], 650), [0, 0, 1, 12, 1, 1])
        # 30 of 600 and 10 of 640 are 610.
        crates = [(30, 600, 0, 5), (10, 640, 0, 7)]
        self.assertEqual(nearest(ANY_MELT, crates, 610), [0, 0, 1, 12, 1, 3])

    def test_not_whole(self):
        crates = [(1, 2, 0, 1), (2, 3, 0, 1)]
        self.assertEqual(nearest((3, 3, 0, 1000, 0, 0), crates, 2), [0, 2, 3, 2, 1, 3])
        self.assertEqual(nearest((3, 3, 0, 1000, 0, 0), crates, 3), [0, 1, 3, 2, 1, 3])
        self.assertEqual(nearest((3, 3, 0, 1000, 0, 0), crates, 7), [0, 13, 3, 2, 1, 3])

    def test_in_lowest_terms(self):
        # 30 of 650 and 10 of 500 are 24500 in 40.
        crates = [(30, 650, 0, 1), (10, 500, 0, 1)]
        self.assertEqual(nearest((40, 40, 0, 1000, 0, 0), crates, 612), [0, 1, 2, 2, 1, 3])
        self.assertEqual(nearest((40, 40, 0, 1000, 0, 0), crates, 600), [0, 25, 2, 2, 1, 3])
        self.assertEqual(nearest((40, 40, 0, 1000, 0, 0), crates, 1000), [0, 775, 2, 2, 1, 3])

    def test_as_near_with_different_weights(self):
        crates = with_prices(THREE_MELTS_WITH_A_THIRD, (2, 3, 1, 4))
        for thousandths, above in ((104, 4), (103, 1), (102, 2), (100, 8), (0, 308), (1000, 2692)):
            with self.subTest(thousandths):
                self.assertEqual(nearest(ZINC_200, crates, thousandths), [0, above, 3, 5, 2, 3])


class Cheapest(unittest.TestCase):
    def test_less_and_more_by_as_much(self):
        # Together they'd have 620 exactly, but be too heavy.
        for less, more in ((600, 640), (640, 600)):
            for prices, answer in (
                ((5, 5), [0, 20, 1, 5, 2, 1]), ((5, 4), [0, 20, 1, 4, 1, 2]), ((4, 5), [0, 20, 1, 4, 1, 1]),
            ):
                with self.subTest(less=less, prices=prices):
                    crates = [(10, less, 0, prices[0]), (10, more, 0, prices[1])]
                    self.assertEqual(nearest((1, 10, 0, 1000, 0, 0), crates, 620), answer)

    def test_the_cheaper_has_the_greater_number(self):
        crates = [(10, 600, 0, 9), (15, 600, 0, 7), (20, 600, 0, 8)]
        self.assertEqual(nearest((1, 20, 0, 1000, 0, 0), crates, 605), [0, 5, 1, 7, 1, 2])

    def test_of_different_weights(self):
        for prices, answer in (
            ((2, 3, 1, 3), [0, 4, 3, 4, 1, 12]), ((2, 3, 2, 4), [0, 4, 3, 5, 1, 3]),
            ((5, 5, 0, 0), [0, 4, 3, 0, 1, 12]), ((0, 0, 5, 5), [0, 4, 3, 0, 1, 3]),
            ((0, 0, 0, 0), [0, 4, 3, 0, 3, 3]),
        ):
            with self.subTest(prices):
                crates = with_prices(THREE_MELTS_WITH_A_THIRD, prices)
                self.assertEqual(nearest(ZINC_200, crates, 104), answer)

    def test_a_cheaper_one_that_is_farther_is_not_taken(self):
        crates = [(10, 600, 0, 9), (10, 599, 0, 0), (10, 601, 0, 0)]
        self.assertEqual(nearest((1, 10, 0, 1000, 0, 0), crates, 600), [0, 0, 1, 9, 1, 1])


class AsGood(unittest.TestCase):
    def test_crates_alike(self):
        self.assertEqual(nearest(ANY_MELT, [(10, 650, 300, 5)] * 8, 650), [0, 0, 1, 5, 8, 1])
        self.assertEqual(nearest(ANY_MELT, [(10, 650, 300, 0)] * 8, 640), [0, 10, 1, 0, 255, 1])

    def test_four_of_eight(self):
        told = nearest((40, 40, 0, 1000, 0, 1000), [(10, 650, 300, 5)] * 8, 1000)
        self.assertEqual(told, [0, 350, 1, 20, 70, 15])

    def test_the_heavier_is_no_better(self):
        crates = [(10, 600, 0, 5), (20, 600, 0, 5), (15, 600, 0, 5)]
        self.assertEqual(nearest(ANY_MELT, crates, 600), [0, 0, 1, 5, 3, 1])

    def test_farther_ones_and_dearer_ones_are_not_counted(self):
        crates = [(10, 602, 0, 5), (10, 601, 0, 6), (10, 599, 0, 5), (10, 598, 0, 5), (10, 601, 0, 5)]
        self.assertEqual(nearest((1, 10, 0, 1000, 0, 0), crates, 600), [0, 1, 1, 5, 2, 4])

    def test_those_not_as_wanted_are_not_counted(self):
        crates = [(10, 600, 1, 5), (11, 600, 0, 5), (10, 600, 0, 5), (10, 600, 0, 5)]
        self.assertEqual(nearest((1, 10, 0, 1000, 0, 0), crates, 600), [0, 0, 1, 5, 2, 4])


class TheNearestOfAllIsNotAsWanted(unittest.TestCase):
    def test_too_light_or_too_heavy(self):
        crates = [(49, 640, 0, 1), (91, 640, 0, 2), (60, 200, 0, 500)]
        self.assertEqual(nearest((50, 90, 0, 1000, 0, 0), crates, 640), [0, 440, 1, 500, 1, 4])

    def test_too_little_or_too_much_copper(self):
        crates = [(60, 599, 0, 1), (60, 701, 0, 2), (60, 650, 0, 500)]
        self.assertEqual(nearest((1, 60, 600, 700, 0, 0), crates, 599), [0, 51, 1, 500, 1, 4])
        self.assertEqual(nearest((1, 60, 600, 700, 0, 0), crates, 701), [0, 51, 1, 500, 1, 4])

    def test_too_little_or_too_much_zinc(self):
        crates = [(60, 640, 249, 1), (60, 640, 351, 2), (60, 100, 300, 500)]
        self.assertEqual(nearest((1, 60, 0, 1000, 250, 350), crates, 640), [0, 540, 1, 500, 1, 4])


class HowManyThousandths(unittest.TestCase):
    def test_none_and_all(self):
        crates = [(10, 0, 0, 5), (10, 1000, 0, 6)]
        self.assertEqual(nearest(ANY_MELT, crates, 0), [0, 0, 1, 5, 1, 1])
        self.assertEqual(nearest(ANY_MELT, crates, 1000), [0, 0, 1, 6, 1, 2])

    def test_as_far_as_can_be(self):
        self.assertEqual(nearest(ANY_MELT, [(10, 1000, 0, 5)], 0), [0, 1000, 1, 5, 1, 1])
        self.assertEqual(nearest(ANY_MELT, [(10, 0, 1000, 5)], 1000), [0, 1000, 1, 5, 1, 1])

    def test_above_a_thousand(self):
        for thousandths in (1001, 1002, 2000, LARGEST):
            with self.subTest(thousandths):
                self.assertEqual(nearest(ANY_MELT, [(10, 1000, 0, 5)], thousandths), [-1])

    def test_above_a_thousand_is_told_before_that_none_is_as_wanted(self):
        for thousandths, answer in ((0, [-6]), (1000, [-6]), (1001, [-1]), (LARGEST, [-1])):
            with self.subTest(thousandths):
                self.assertEqual(last(near(thousandths)), answer)
                self.assertEqual(nearest(ANY_MELT, [], thousandths), answer)
                self.assertEqual(nearest((1, 9, 0, 1000, 0, 1000), [(10, 1000, 0, 5)], thousandths), answer)


class NoneAsWanted(unittest.TestCase):
    def test_no_crate(self):
        self.assertEqual(last(near(650)), [-6])
        self.assertEqual(last(begins(*ANY_MELT), near(650)), [-6])

    def test_crates(self):
        for wanted in (
            (61, 119, 0, 1000, 0, 1000), (1, 59, 0, 1000, 0, 1000), (181, 1000, 0, 1000, 0, 1000),
            (1, 1000, 651, 1000, 0, 1000), (1, 1000, 0, 649, 0, 1000),
            (1, 1000, 0, 1000, 301, 1000), (1, 1000, 0, 1000, 0, 299),
        ):
            with self.subTest(wanted):
                self.assertEqual(nearest(wanted, [(60, 650, 300, 0)] * 3, 650), [-6])

    def test_until_there_is_one(self):
        told = answered(begins(100, 100, 0, 1000, 0, 0), near(500), crate(60, 500, 0, 5), near(500),
                        crate(40, 600, 0, 6), near(500), check(3))
        self.assertEqual(told[1:], [[-6], [0], [-6], [1], [0, 40, 1, 11, 1, 3], [11, 100, 540, 1, 0, 1]])


if __name__ == "__main__":
    unittest.main()
