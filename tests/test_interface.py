"""How calls are laid in one list, and how the answers are."""

import unittest

from scrapcrates.yard import answers

SEVERAL = [
    0, 50, 90, 600, 700, 250, 350,
    1, 40, 650, 300, 12,
    1, 20, 500, 450, 7,
    2, 3,
    2, 1,
    2, 4,
    1, 0, 0, 0, 0,
    0, 1, 1001, 0, 0, 0, 0,
]
ANSWERED = [
    1, 0,
    1, 0,
    1, 1,
    6, 19, 60, 600, 1, 350, 1,
    7, -6, 1, 40, 650, 1, 300, 1,
    1, -1,
    1, -1,
    1, -1,
]


class Form(unittest.TestCase):
    def test_one_call(self):
        self.assertEqual(answers([0, 1, 1000, 0, 1000, 0, 1000]), [1, 0])
        self.assertEqual(answers([1, 40, 650, 300, 12]), [1, 0])
        self.assertEqual(answers([2, 1]), [1, -1])

    def test_several_calls(self):
        self.assertEqual(answers(SEVERAL), ANSWERED)

    def test_the_length_stands_before_each_answer(self):
        self.assertEqual(answers([1, 3, 1, 2, 5, 2, 1]), [1, 0, 6, 5, 3, 1, 1, 2, 1])

    def test_a_refusal_stands_alone(self):
        self.assertEqual(answers([1, 201, 0, 0, 0, 2, 0]), [1, -1, 1, -1])
        nine = [1, 40, 650, 300, 12] * 9
        self.assertEqual(answers(nine)[-2:], [1, -5])

    def test_six_numbers_behind_what_is_not_as_wanted(self):
        # 200 of 700 and 1 of 500 are 140500 in 201; 200 of 200 and 1 of 100 are 40100.
        told = answers([1, 200, 700, 200, 3, 1, 1, 500, 100, 4, 2, 3])
        self.assertEqual(told, [1, 0, 1, 1, 7, -6, 1, 201, 140500, 201, 40100, 201])

    def test_sixty_calls(self):
        told = answers([1, 40, 650, 300, 12] + [2, 1] * 59)
        self.assertEqual(told, [1, 0] + [6, 12, 40, 650, 1, 300, 1] * 59)

    def test_numbers_are_plain_whole_numbers_in_a_list(self):
        told = answers(list(SEVERAL))
        self.assertIs(type(told), list)
        self.assertEqual({type(number) for number in told}, {int})


class NothingKept(unittest.TestCase):
    def test_what_is_handed_in_is_as_it_was(self):
        handed = list(SEVERAL)
        answers(handed)
        self.assertEqual(handed, SEVERAL)

    def test_a_second_time_is_as_the_first(self):
        first = answers(SEVERAL)
        self.assertEqual(answers(SEVERAL), first)
        self.assertEqual(first, ANSWERED)

    def test_no_crates_stay(self):
        answers([1, 40, 650, 300, 12])
        self.assertEqual(answers([2, 1, 1, 30, 650, 300, 12]), [1, -1, 1, 0])

    def test_nothing_wanted_stays(self):
        answers([0, 1, 1, 0, 0, 0, 0])
        self.assertEqual(answers([1, 40, 650, 300, 12, 2, 1]), [1, 0, 6, 12, 40, 650, 1, 300, 1])

    def test_what_was_given_back_is_not_used_again(self):
        first = answers(SEVERAL)
        first.clear()
        self.assertEqual(answers(SEVERAL), ANSWERED)


if __name__ == "__main__":
    unittest.main()
