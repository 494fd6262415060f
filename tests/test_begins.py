"""Promise 1 of begins, and what is wanted before any begins."""

import unittest

from yardcalls import ANY_MELT, LARGEST, answered, begins, check, crate, last

ORDINARY = (50, 90, 600, 700, 250, 350)


def with_number(place, number, numbers=ANY_MELT):
    changed = list(numbers)
    changed[place] = number
    return begins(*changed)


class Accepted(unittest.TestCase):
    def test_ordinary(self):
        self.assertEqual(last(begins(*ORDINARY)), [0])

    def test_each_number_at_its_edges(self):
        for numbers in (
            (1, 1, 0, 0, 0, 0),
            (1000, 1000, 1000, 1000, 1000, 1000),
            (1, 1000, 0, 1000, 0, 1000),
            (1000, 1000, 0, 0, 0, 0),
            (1, 1, 1000, 1000, 0, 0),
            (1, 1, 0, 0, 1000, 1000),
        ):
            with self.subTest(numbers):
                self.assertEqual(last(begins(*numbers)), [0])

    def test_least_may_be_most(self):
        self.assertEqual(last(begins(70, 70, 650, 650, 300, 300)), [0])

    def test_copper_and_zinc_wanted_may_be_above_a_thousand_together(self):
        self.assertEqual(last(begins(1, 200, 600, 1000, 600, 1000)), [0])

    def test_what_is_wanted_is_what_check_goes_by(self):
        for numbers, wrong in (
            ((51, 90, 600, 700, 250, 350), 1),
            ((30, 49, 600, 700, 250, 350), 1),
            ((50, 90, 651, 700, 250, 350), 2),
            ((50, 90, 600, 649, 250, 350), 2),
            ((50, 90, 600, 700, 301, 350), 3),
            ((50, 90, 600, 700, 250, 299), 3),
        ):
            with self.subTest(numbers):
                told = last(begins(*numbers), crate(50, 650, 300, 7), check(1))
                self.assertEqual(told, [-6, wrong, 50, 650, 1, 300, 1])
        self.assertEqual(last(begins(*ORDINARY), crate(50, 650, 300, 7), check(1)), [7, 50, 650, 1, 300, 1])

    def test_leaves_no_crates(self):
        told = answered(
            crate(10, 500, 400, 3), crate(20, 500, 400, 3), begins(*ANY_MELT), check(1), check(2),
            crate(30, 600, 300, 4), check(1), check(2), check(3))
        self.assertEqual(told, [[0], [1], [0], [-1], [-1], [0], [4, 30, 600, 1, 300, 1], [-1], [-1]])

    def test_makes_room_for_eight_again(self):
        eight = [crate(1, 0, 0, 0)] * 8
        told = answered(*eight, begins(*ANY_MELT), *eight, crate(1, 0, 0, 0))
        self.assertEqual(told, [[n] for n in range(8)] + [[0]] + [[n] for n in range(8)] + [[-5]])

    def test_the_last_one_counts(self):
        told = last(begins(1, 9, 0, 0, 0, 0), begins(*ANY_MELT), begins(*ORDINARY), crate(49, 650, 300, 7), check(1))
        self.assertEqual(told, [-6, 1, 49, 650, 1, 300, 1])


class Refused(unittest.TestCase):
    def test_heavy_below_and_above(self):
        for place in (0, 1):
            for number in (0, 1001):
                with self.subTest(place=place, number=number):
                    self.assertEqual(last(with_number(place, number)), [-1])
        self.assertEqual(last(begins(0, 0, 0, 1000, 0, 1000)), [-1])
        self.assertEqual(last(begins(1001, 1001, 0, 1000, 0, 1000)), [-1])

    def test_thousandths_above(self):
        for place in (2, 3, 4, 5):
            with self.subTest(place):
                self.assertEqual(last(with_number(place, 1001)), [-1])
        self.assertEqual(last(begins(1, 1000, 1001, 1001, 0, 1000)), [-1])
        self.assertEqual(last(begins(1, 1000, 0, 1000, 1001, 1001)), [-1])

    def test_least_one_more_than_most(self):
        for numbers in (
            (91, 90, 600, 700, 250, 350),
            (50, 90, 701, 700, 250, 350),
            (50, 90, 600, 700, 351, 350),
            (1000, 999, 0, 1000, 0, 1000),
            (1, 1000, 1, 0, 0, 1000),
            (1, 1000, 0, 1000, 1000, 999),
        ):
            with self.subTest(numbers):
                self.assertEqual(last(begins(*numbers)), [-1])

    def test_the_largest_number_in_each_place(self):
        for place in range(6):
            with self.subTest(place):
                self.assertEqual(last(with_number(place, LARGEST)), [-1])
        self.assertEqual(last(begins(*[LARGEST] * 6)), [-1])

    def test_leaves_what_was_wanted(self):
        refused = (
            begins(0, 1000, 0, 1000, 0, 1000), begins(1, 1001, 0, 1000, 0, 1000),
            begins(1, 1000, 1, 0, 0, 1000), begins(1, 1000, 0, 1001, 0, 1000),
            begins(1, 1000, 0, 1000, 1, 0), begins(1, 1000, 0, 1000, 0, LARGEST),
        )
        for call in refused:
            with self.subTest(call):
                told = answered(
                    begins(*ORDINARY), call, crate(49, 650, 300, 1), crate(50, 599, 300, 2), crate(50, 650, 351, 3),
                    crate(50, 650, 249, 3), check(1), check(2), check(4))
                self.assertEqual(told[:2], [[0], [-1]])
                self.assertEqual(told[6:], [
                    [-6, 1, 49, 650, 1, 300, 1], [-6, 2, 50, 599, 1, 300, 1], [-6, 3, 50, 650, 1, 249, 1]])

    def test_leaves_what_was_wanted_at_the_beginning(self):
        told = last(begins(1, 1001, 0, 1000, 0, 1000), crate(200, 0, 0, 5), crate(1, 0, 0, 5), check(3))
        self.assertEqual(told, [-6, 1, 201, 0, 1, 0, 1])

    def test_leaves_the_crates(self):
        told = answered(
            begins(*ORDINARY), crate(50, 650, 300, 7), crate(30, 650, 300, 2), begins(2, 1, 0, 0, 0, 0),
            check(1), check(3), crate(1, 0, 0, 0), check(8))
        self.assertEqual(told[3:], [[-1], [7, 50, 650, 1, 300, 1], [9, 80, 650, 1, 300, 1], [2], [-1]])


class BeforeAnyBegins(unittest.TestCase):
    def test_there_are_no_crates(self):
        self.assertEqual(last(check(1)), [-1])

    def test_of_1_to_200_are_wanted(self):
        told = answered(crate(1, 500, 500, 3), crate(199, 500, 500, 4), crate(200, 500, 500, 5),
                        check(1), check(3), check(4), check(5))
        self.assertEqual(told[3:], [
            [3, 1, 500, 1, 500, 1], [7, 200, 500, 1, 500, 1], [5, 200, 500, 1, 500, 1],
            [-6, 1, 201, 500, 1, 500, 1]])

    def test_whatever_is_in_it(self):
        told = answered(crate(9, 0, 0, 1), crate(9, 1000, 0, 2), crate(9, 0, 1000, 3), check(1), check(2), check(4))
        self.assertEqual(told[3:], [[1, 9, 0, 1, 0, 1], [2, 9, 1000, 1, 0, 1], [3, 9, 0, 1, 1000, 1]])


if __name__ == "__main__":
    unittest.main()
