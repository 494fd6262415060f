"""Promise 1 of crate."""

import unittest

from yardcalls import ANY_MELT, LARGEST, answered, begins, check, crate, last

ORDINARY = (40, 650, 300, 12)


class Accepted(unittest.TestCase):
    def test_ordinary_crates_are_numbered_from_0(self):
        told = answered(crate(*ORDINARY), crate(25, 580, 390, 9), crate(*ORDINARY))
        self.assertEqual(told, [[0], [1], [2]])

    def test_each_number_at_its_edges(self):
        for numbers in (
            (1, 0, 0, 0),
            (200, 0, 0, 0),
            (1, 1000, 0, 0),
            (1, 0, 1000, 0),
            (1, 500, 500, 0),
            (1, 999, 1, 0),
            (1, 1, 999, 0),
            (1, 0, 0, 1000),
            (200, 1000, 0, 1000),
        ):
            with self.subTest(numbers):
                told = answered(crate(*numbers), check(1))
                heavy, copper, zinc, price = numbers
                self.assertEqual(told, [[0], [price, heavy, copper, 1, zinc, 1]])

    def test_a_crate_needs_not_be_as_the_melt_is_wanted(self):
        told = answered(begins(300, 400, 900, 950, 10, 20), crate(*ORDINARY))
        self.assertEqual(told, [[0], [0]])

    def test_eight_and_no_more(self):
        told = answered(*[crate(*ORDINARY)] * 10)
        self.assertEqual(told, [[0], [1], [2], [3], [4], [5], [6], [7], [-5], [-5]])


class Refused(unittest.TestCase):
    not_as_told = (
        (0, 650, 300, 12),
        (201, 650, 300, 12),
        (40, 1000, 1, 12),
        (40, 1, 1000, 12),
        (40, 501, 500, 12),
        (40, 1001, 0, 12),
        (40, 0, 1001, 12),
        (40, 650, 300, 1001),
        (LARGEST, 650, 300, 12),
        (40, LARGEST, 300, 12),
        (40, 650, LARGEST, 12),
        (40, 650, 300, LARGEST),
        (40, LARGEST, 0, 12),
        (40, 0, LARGEST, 12),
        (LARGEST, LARGEST, LARGEST, LARGEST),
    )

    def test_a_number_not_as_told(self):
        for numbers in self.not_as_told:
            with self.subTest(numbers):
                self.assertEqual(last(crate(*numbers)), [-1])

    def test_a_ninth_not_as_told_is_refused_for_that(self):
        for numbers in self.not_as_told:
            with self.subTest(numbers):
                self.assertEqual(last(*[crate(*ORDINARY)] * 8, crate(*numbers)), [-1])

    def test_not_as_told_leaves_all_as_it_was(self):
        for numbers in self.not_as_told:
            with self.subTest(numbers):
                told = answered(
                    begins(40, 65, 0, 1000, 0, 1000), crate(*ORDINARY), crate(*numbers), check(1), check(2),
                    crate(25, 650, 300, 9), check(3), crate(1, 650, 300, 1), check(7), check(4))
                self.assertEqual(told, [
                    [0], [0], [-1], [12, 40, 650, 1, 300, 1], [-1],
                    [1], [21, 65, 650, 1, 300, 1], [2], [-6, 1, 66, 650, 1, 300, 1], [-6, 1, 1, 650, 1, 300, 1]])

    def test_not_as_told_takes_no_room(self):
        told = answered(*[crate(0, 0, 0, 0)] * 9, *[crate(*ORDINARY)] * 9)
        self.assertEqual(told, [[-1]] * 9 + [[n] for n in range(8)] + [[-5]])

    def test_a_ninth_leaves_all_as_it_was(self):
        eight = [crate(10, 100 * n, 0, n) for n in range(8)]
        checks = [check(1), check(128), check(255), check(256)]
        told = answered(begins(10, 80, 0, 700, 0, 0), *eight, *checks, crate(77, 0, 1000, 5), *checks)
        before, after = told[9:13], told[14:]
        self.assertEqual(told[13], [-5])
        self.assertEqual(before, after)
        self.assertEqual(before, [[0, 10, 0, 1, 0, 1], [7, 10, 700, 1, 0, 1], [28, 80, 350, 1, 0, 1], [-1]])


class NumberedAnew(unittest.TestCase):
    def test_after_begins(self):
        told = answered(crate(*ORDINARY), crate(*ORDINARY), begins(*ANY_MELT), crate(*ORDINARY))
        self.assertEqual(told[-1], [0])


if __name__ == "__main__":
    unittest.main()
