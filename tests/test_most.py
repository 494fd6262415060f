"""What promise 2 and the words say of most."""

import unittest

from yardcalls import ANY_MELT, answered, begins, check, crate, last, most, yard


def with_most(wanted, crates):
    """Ask for the melt of these crates that uses up the most of them."""
    return last(*yard(wanted, crates), most())


class MostCrates(unittest.TestCase):
    def test_a_single_crate(self):
        self.assertEqual(with_most((60, 60, 650, 650, 300, 300), [(60, 650, 300, 12)]), [1, 1])

    def test_all_crates(self):
        self.assertEqual(with_most(ANY_MELT, [(60, 650, 300, 12)] * 3), [3, 7])
        self.assertEqual(with_most(ANY_MELT, [(125, 650, 300, 1000)] * 8), [8, 255])

    def test_all_crates_are_too_heavy(self):
        crates = [(60, 650, 300, 1), (20, 650, 300, 900), (21, 650, 300, 900)]
        self.assertEqual(with_most((1, 100, 0, 1000, 0, 1000), crates), [2, 3])
        self.assertEqual(with_most((1, 70, 0, 1000, 0, 1000), crates), [2, 6])
        self.assertEqual(with_most((1, 101, 0, 1000, 0, 1000), crates), [3, 7])

    def test_all_crates_have_too_much_copper(self):
        crates = [(60, 600, 0, 1), (60, 660, 0, 1), (60, 601, 0, 1)]
        self.assertEqual(with_most((1, 1000, 0, 620, 0, 0), crates), [2, 5])
        self.assertEqual(with_most((1, 1000, 0, 600, 0, 0), crates), [1, 1])
        self.assertEqual(with_most((1, 1000, 0, 621, 0, 0), crates), [3, 7])

    def test_all_crates_have_too_little_zinc(self):
        crates = [(60, 0, 100, 1), (60, 0, 300, 1), (60, 0, 302, 1)]
        self.assertEqual(with_most((1, 1000, 0, 0, 300, 1000), crates), [2, 6])
        self.assertEqual(with_most((1, 1000, 0, 0, 302, 1000), crates), [1, 4])

    def test_a_thousand_is_the_heaviest_that_can_be_wanted(self):
        self.assertEqual(with_most(ANY_MELT, [(200, 0, 0, 0)] * 8), [5, 31])
        self.assertEqual(with_most(ANY_MELT, [(200, 0, 0, 0)] * 3 + [(199, 0, 0, 0)] * 5), [5, 31])
        self.assertEqual(with_most(ANY_MELT, [(200, 0, 0, 0)] * 4 + [(100, 0, 0, 0)] * 4), [7, 127 + 128 - 8])

    def test_not_the_heaviest_nor_the_cheapest(self):
        # The crate of 100 is heavier and cheaper than both others together.
        crates = [(100, 0, 0, 0), (20, 0, 0, 700), (30, 0, 0, 800)]
        self.assertEqual(with_most((50, 100, 0, 0, 0, 0), crates), [2, 6])

    def test_not_the_greatest_number(self):
        crates = [(30, 0, 0, 1), (30, 0, 0, 1), (30, 0, 0, 1), (90, 0, 0, 1)]
        self.assertEqual(with_most((90, 100, 0, 0, 0, 0), crates), [3, 7])

    def test_before_any_begins(self):
        told = last(crate(100, 0, 0, 9), crate(101, 0, 0, 4), crate(100, 0, 0, 4), most())
        self.assertEqual(told, [2, 5])


class LeastNumber(unittest.TestCase):
    def test_of_two_alike(self):
        self.assertEqual(with_most((1, 60, 0, 1000, 0, 1000), [(60, 650, 300, 12)] * 2), [1, 1])

    def test_of_two_with_as_many_crates(self):
        # The crates 0 and 3 are 9, the crates 1 and 2 are 6.
        crates = [(10, 0, 0, 1), (20, 0, 0, 500), (30, 0, 0, 500), (40, 0, 0, 1)]
        self.assertEqual(with_most((50, 50, 0, 0, 0, 0), crates), [2, 6])

    def test_the_price_and_the_weight_do_not_matter(self):
        crates = [(30, 0, 0, 9), (20, 0, 0, 8), (40, 0, 0, 0)]
        self.assertEqual(with_most((1, 80, 0, 0, 0, 0), crates), [2, 3])

    def test_four_of_eight(self):
        self.assertEqual(with_most((1, 49, 0, 1000, 0, 1000), [(10, 650, 300, 5)] * 8), [4, 15])


class NoneAsWanted(unittest.TestCase):
    def test_no_crate(self):
        self.assertEqual(last(most()), [-6])
        self.assertEqual(last(begins(*ANY_MELT), most()), [-6])

    def test_crates(self):
        for wanted in (
            (61, 119, 0, 1000, 0, 1000), (1, 59, 0, 1000, 0, 1000), (181, 1000, 0, 1000, 0, 1000),
            (1, 1000, 651, 1000, 0, 1000), (1, 1000, 0, 649, 0, 1000),
            (1, 1000, 0, 1000, 301, 1000), (1, 1000, 0, 1000, 0, 299),
        ):
            with self.subTest(wanted):
                self.assertEqual(with_most(wanted, [(60, 650, 300, 0)] * 3), [-6])

    def test_until_there_is_one(self):
        told = answered(begins(100, 100, 0, 0, 0, 0), most(), crate(60, 0, 0, 5), most(), crate(40, 0, 0, 6),
                        most(), check(3))
        self.assertEqual(told[1:], [[-6], [0], [-6], [1], [2, 3], [11, 100, 0, 1, 0, 1]])


if __name__ == "__main__":
    unittest.main()
