"""What promise 2 and the words say of cheap."""

import unittest

from yardcalls import ANY_MELT, answered, begins, cheap, check, crate, last, yard


def cheapest(wanted, crates):
    """Ask for the cheapest melt of these crates."""
    return last(*yard(wanted, crates), cheap())


class LeastCost(unittest.TestCase):
    def test_ordinary(self):
        # 40 of 650 and 20 of 500 are 600 in 60; either alone is too light; with the 99 it's too heavy.
        crates = [(40, 650, 300, 12), (99, 0, 0, 500), (20, 500, 450, 7)]
        self.assertEqual(cheapest((50, 90, 600, 700, 250, 350), crates), [19, 60, 1, 5])

    def test_a_single_crate(self):
        self.assertEqual(cheapest((60, 60, 650, 650, 300, 300), [(60, 650, 300, 12)]), [12, 60, 1, 1])

    def test_a_dearer_melt_that_is_heavier(self):
        self.assertEqual(cheapest(ANY_MELT, [(100, 0, 0, 10), (20, 0, 0, 9)]), [9, 20, 1, 2])
        self.assertEqual(cheapest(ANY_MELT, [(20, 0, 0, 9), (100, 0, 0, 10)]), [9, 20, 1, 1])

    def test_the_cost_is_that_of_all_crates_together(self):
        # The two cheapest crates cost more together than the dearest alone.
        crates = [(30, 0, 0, 6), (60, 0, 0, 11), (30, 0, 0, 6)]
        self.assertEqual(cheapest((60, 60, 0, 0, 0, 0), crates), [11, 60, 1, 2])
        crates = [(30, 0, 0, 5), (60, 0, 0, 11), (30, 0, 0, 5)]
        self.assertEqual(cheapest((60, 60, 0, 0, 0, 0), crates), [10, 60, 1, 5])

    def test_not_the_least_cost_by_weight(self):
        self.assertEqual(cheapest(ANY_MELT, [(1, 0, 0, 5), (200, 0, 0, 6)]), [5, 1, 1, 1])

    def test_each_crate_is_melted_whole_and_once(self):
        # One of 30 would have to be melted twice to make it cheaper.
        crates = [(30, 0, 0, 1), (30, 0, 0, 100), (60, 0, 0, 90)]
        self.assertEqual(cheapest((60, 60, 0, 0, 0, 0), crates), [90, 60, 1, 4])

    def test_the_dearest(self):
        crates = [(200, 1000, 0, 1000)] * 5
        self.assertEqual(cheapest((1000, 1000, 1000, 1000, 0, 0), crates), [5000, 1000, 1, 31])

    def test_before_any_begins(self):
        told = last(crate(200, 0, 0, 9), crate(100, 0, 0, 4), crate(101, 0, 0, 4), cheap())
        self.assertEqual(told, [4, 101, 1, 4])


class Heaviest(unittest.TestCase):
    def test_of_one_price(self):
        self.assertEqual(cheapest(ANY_MELT, [(20, 0, 0, 9), (30, 0, 0, 9)]), [9, 30, 1, 2])
        self.assertEqual(cheapest(ANY_MELT, [(30, 0, 0, 9), (20, 0, 0, 9)]), [9, 30, 1, 1])

    def test_of_one_price_together(self):
        # 0 and 1 cost 9, so does 2; 2 is the heavier.
        crates = [(10, 0, 0, 4), (10, 0, 0, 5), (21, 0, 0, 9)]
        self.assertEqual(cheapest((20, 30, 0, 0, 0, 0), crates), [9, 21, 1, 4])
        crates = [(10, 0, 0, 4), (12, 0, 0, 5), (21, 0, 0, 9)]
        self.assertEqual(cheapest((20, 30, 0, 0, 0, 0), crates), [9, 22, 1, 3])

    def test_only_while_as_wanted(self):
        crates = [(20, 0, 0, 9), (91, 0, 0, 9), (30, 0, 0, 9)]
        self.assertEqual(cheapest((1, 90, 0, 0, 0, 0), crates), [9, 30, 1, 4])


class Nothing(unittest.TestCase):
    def test_crates_that_cost_nothing(self):
        crates = [(10, 0, 0, 0), (20, 0, 0, 0), (30, 0, 0, 0)]
        self.assertEqual(cheapest(ANY_MELT, crates), [0, 60, 1, 7])
        self.assertEqual(cheapest((1, 40, 0, 0, 0, 0), crates), [0, 40, 1, 5])

    def test_beside_one_with_a_price(self):
        crates = [(10, 0, 0, 0), (200, 0, 0, 1), (30, 0, 0, 0)]
        self.assertEqual(cheapest(ANY_MELT, crates), [0, 40, 1, 5])
        self.assertEqual(cheapest((200, 1000, 0, 0, 0, 0), crates), [1, 240, 1, 7])

    def test_several_as_good(self):
        crates = [(10, 0, 0, 0), (10, 0, 0, 0), (20, 0, 0, 0)]
        self.assertEqual(cheapest((1, 30, 0, 0, 0, 0), crates), [0, 30, 2, 5])


class AsGood(unittest.TestCase):
    def test_crates_alike(self):
        self.assertEqual(cheapest(ANY_MELT, [(20, 0, 0, 9)] * 3), [9, 20, 3, 1])

    def test_different_crates_of_one_price_and_weight(self):
        crates = [(10, 100, 0, 4), (20, 200, 0, 9), (10, 0, 300, 5)]
        self.assertEqual(cheapest((20, 1000, 0, 1000, 0, 1000), crates), [9, 20, 2, 2])

    def test_lighter_ones_and_dearer_ones_are_not_counted(self):
        crates = [(19, 0, 0, 9), (20, 0, 0, 10), (20, 0, 0, 9), (18, 0, 0, 9), (20, 0, 0, 9), (20, 0, 0, 11)]
        self.assertEqual(cheapest(ANY_MELT, crates), [9, 20, 2, 4])

    def test_those_not_as_wanted_are_not_counted(self):
        crates = [(20, 599, 0, 9), (20, 600, 0, 9), (20, 700, 0, 9), (20, 701, 0, 9), (20, 650, 1, 9)]
        self.assertEqual(cheapest((20, 20, 600, 700, 0, 0), crates), [9, 20, 2, 2])

    def test_four_of_eight(self):
        self.assertEqual(cheapest((40, 40, 0, 1000, 0, 1000), [(10, 650, 300, 5)] * 8), [20, 40, 70, 15])


class EightCrates(unittest.TestCase):
    def test_all_of_them(self):
        crates = [(n + 1, 0, 0, 10 * n) for n in range(8)]
        self.assertEqual(cheapest((36, 1000, 0, 0, 0, 0), crates), [280, 36, 1, 255])

    def test_the_last_alone(self):
        crates = [(20, 0, 0, 9)] * 7 + [(20, 0, 0, 8)]
        self.assertEqual(cheapest(ANY_MELT, crates), [8, 20, 1, 128])

    def test_one_is_left_out(self):
        crates = [(n + 1, 0, 0, 10 * n) for n in range(8)]
        self.assertEqual(cheapest((31, 1000, 0, 0, 0, 0), crates), [240, 31, 1, 255 - 16])


class TheCheapestOfAllIsNotAsWanted(unittest.TestCase):
    def test_too_light_or_too_heavy(self):
        crates = [(49, 0, 0, 1), (91, 0, 0, 2), (60, 0, 0, 500)]
        self.assertEqual(cheapest((50, 90, 0, 0, 0, 0), crates), [500, 60, 1, 4])

    def test_too_little_or_too_much_copper(self):
        crates = [(60, 599, 0, 1), (60, 701, 0, 2), (60, 650, 0, 500)]
        self.assertEqual(cheapest((1, 60, 600, 700, 0, 0), crates), [500, 60, 1, 4])

    def test_too_little_or_too_much_zinc(self):
        crates = [(60, 0, 249, 1), (60, 0, 351, 2), (60, 0, 300, 500)]
        self.assertEqual(cheapest((1, 60, 0, 0, 250, 350), crates), [500, 60, 1, 4])

    def test_off_by_less_than_a_thousandth(self):
        crates = [(199, 500, 0, 1), (1, 501, 0, 1), (200, 500, 0, 500)]
        self.assertEqual(cheapest((200, 200, 500, 500, 0, 0), crates), [500, 200, 1, 4])


class NoneAsWanted(unittest.TestCase):
    def test_no_crate(self):
        self.assertEqual(last(cheap()), [-6])
        self.assertEqual(last(begins(*ANY_MELT), cheap()), [-6])

    def test_crates(self):
        for wanted, crates in (
            ((61, 119, 0, 1000, 0, 1000), [(60, 650, 300, 0)] * 3),
            ((181, 1000, 0, 1000, 0, 1000), [(60, 650, 300, 0)] * 3),
            ((1, 59, 0, 1000, 0, 1000), [(60, 650, 300, 0)] * 3),
            ((1, 1000, 651, 1000, 0, 1000), [(60, 650, 300, 0)] * 3),
            ((1, 1000, 0, 649, 0, 1000), [(60, 650, 300, 0)] * 3),
            ((1, 1000, 0, 1000, 301, 1000), [(60, 650, 300, 0)] * 3),
            ((1, 1000, 0, 1000, 0, 299), [(60, 650, 300, 0)] * 3),
            ((1, 199, 0, 1000, 0, 1000), [(200, 650, 300, 0)] * 8),
            ((1, 1000, 600, 1000, 600, 1000), [(1, 1000, 0, 0), (1, 0, 1000, 0)]),
        ):
            with self.subTest(wanted=wanted):
                self.assertEqual(cheapest(wanted, crates), [-6])

    def test_until_there_is_one(self):
        told = answered(begins(100, 100, 0, 0, 0, 0), cheap(), crate(60, 0, 0, 5), cheap(), crate(40, 0, 0, 6),
                        cheap(), check(3))
        self.assertEqual(told[1:], [[-6], [0], [-6], [1], [11, 100, 1, 3], [11, 100, 0, 1, 0, 1]])


if __name__ == "__main__":
    unittest.main()
