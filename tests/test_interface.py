"""How calls are laid in one list, and how the answers are."""

import unittest

from scrapcrates.yard import answers

SEVERAL = [
    0, 50, 90, 600, 700, 250, 350,
    1, 40, 650, 300, 12,
    1, 20, 500, 450, 7,
    2, 3,
    2, 1,
    2, 4,
    1, 0, 0, 0, 0,
    0, 1, 1001, 0, 0, 0, 0,
]
ANSWERED = [
    1, 0,
    1, 0,
    1, 1,
    6, 19, 60, 600, 1, 350, 1,
    7, -6, 1, 40, 650, 1, 300, 1,
    1, -1,
    1, -1,
    1, -1,
]

ALL_SIX = [
    3,
    4, 1001,
    5,
    0, 50, 90, 600, 700, 250, 350,
    1, 40, 650, 300, 12,
    4, 640,
    1, 20, 500, 450, 7,
    3,
    2, 3,
    4, 640,
    5,
    2, 1,
    4, 4294967295,
]
ALL_SIX_ANSWERED = [
    1, -6,
    1, -1,
    1, -6,
    1, 0,
    1, 0,
    1, -6,
    1, 1,
    4, 19, 60, 1, 3,
    6, 19, 60, 600, 1, 350, 1,
    6, 0, 40, 1, 19, 1, 3,
    2, 2, 3,
    7, -6, 1, 40, 650, 1, 300, 1,
    1, -1,
]

# Of the eight crates four are 600 and four are 700 thousandths of copper, and four of them are wanted.
SIXTY = (
    [0, 40, 40, 0, 1000, 0, 1000]
    + [1, 10, 600, 300, 5, 1, 10, 700, 300, 5] * 4
    + [3, 4, 650, 5, 4, 610, 4, 1001] + [2, 240, 2, 0] * 21 + [2, 15] + [5, 3, 4, 600]
)
SIXTY_ANSWERED = (
    [1, 0] + [1, 0, 1, 1, 1, 2, 1, 3, 1, 4, 1, 5, 1, 6, 1, 7]
    + [4, 20, 40, 70, 15] + [6, 0, 0, 1, 20, 36, 15] + [2, 4, 15] + [6, 0, 10, 1, 20, 1, 85] + [1, -1]
    + [6, 20, 40, 650, 1, 300, 1, 1, -1] * 21 + [6, 20, 40, 650, 1, 300, 1]
    + [2, 4, 15] + [4, 20, 40, 70, 15] + [6, 0, 0, 1, 20, 1, 85]
)


class Untouchable(list):
    """A list that fails wherever it would be changed, even if only for a while."""

    def refuse(self, *rest, **named):
        raise AssertionError("what was handed in is changed")

    append = clear = extend = insert = pop = remove = reverse = sort = refuse
    __setitem__ = __delitem__ = __iadd__ = __imul__ = refuse


class Form(unittest.TestCase):
    def test_one_call(self):
        self.assertEqual(answers([0, 1, 1000, 0, 1000, 0, 1000]), [1, 0])
        self.assertEqual(answers([1, 40, 650, 300, 12]), [1, 0])
        self.assertEqual(answers([2, 1]), [1, -1])

    def test_several_calls(self):
        self.assertEqual(answers(SEVERAL), ANSWERED)

    def test_cheap_near_and_most(self):
        self.assertEqual(answers([3]), [1, -6])
        self.assertEqual(answers([4, 0]), [1, -6])
        self.assertEqual(answers([4, 1001]), [1, -1])
        self.assertEqual(answers([5]), [1, -6])
        a_crate = [1, 40, 650, 300, 12]
        self.assertEqual(answers(a_crate + [3]), [1, 0, 4, 12, 40, 1, 1])
        self.assertEqual(answers(a_crate + [4, 3]), [1, 0, 6, 0, 647, 1, 12, 1, 1])
        self.assertEqual(answers(a_crate + [5]), [1, 0, 2, 1, 1])

    def test_all_six_calls(self):
        self.assertEqual(answers(ALL_SIX), ALL_SIX_ANSWERED)

    def test_the_length_stands_before_each_answer(self):
        self.assertEqual(answers([1, 3, 1, 2, 5, 2, 1]), [1, 0, 6, 5, 3, 1, 1, 2, 1])

    def test_a_refusal_stands_alone(self):
        self.assertEqual(answers([1, 201, 0, 0, 0, 2, 0]), [1, -1, 1, -1])
        nine = [1, 40, 650, 300, 12] * 9
        self.assertEqual(answers(nine)[-2:], [1, -5])

    def test_six_numbers_behind_what_is_not_as_wanted(self):
        # 200 of 700 and 1 of 500 are 140500 in 201; 200 of 200 and 1 of 100 are 40100.
        told = answers([1, 200, 700, 200, 3, 1, 1, 500, 100, 4, 2, 3])
        self.assertEqual(told, [1, 0, 1, 1, 7, -6, 1, 201, 140500, 201, 40100, 201])

    def test_sixty_calls(self):
        told = answers([1, 40, 650, 300, 12] + [2, 1] * 59)
        self.assertEqual(told, [1, 0] + [6, 12, 40, 650, 1, 300, 1] * 59)

    def test_sixty_calls_with_eight_of_cheap_near_and_most(self):
        self.assertEqual(answers(SIXTY), SIXTY_ANSWERED)

    def test_numbers_are_plain_whole_numbers_in_a_list(self):
        for calls in (SEVERAL, ALL_SIX, SIXTY):
            told = answers(list(calls))
            self.assertIs(type(told), list)
            self.assertEqual({type(number) for number in told}, {int})


class NothingKept(unittest.TestCase):
    def test_what_is_handed_in_is_as_it_was(self):
        for calls in (SEVERAL, ALL_SIX, SIXTY):
            handed = list(calls)
            answers(handed)
            self.assertEqual(handed, calls)

    def test_what_is_handed_in_is_not_changed_for_a_while_either(self):
        self.assertEqual(answers(Untouchable(SEVERAL)), ANSWERED)
        self.assertEqual(answers(Untouchable(ALL_SIX)), ALL_SIX_ANSWERED)
        self.assertEqual(answers(Untouchable(SIXTY)), SIXTY_ANSWERED)

    def test_a_second_time_is_as_the_first(self):
        for calls, told in ((SEVERAL, ANSWERED), (ALL_SIX, ALL_SIX_ANSWERED), (SIXTY, SIXTY_ANSWERED)):
            first = answers(calls)
            self.assertEqual(answers(calls), first)
            self.assertEqual(first, told)

    def test_no_crates_stay(self):
        answers([1, 40, 650, 300, 12])
        self.assertEqual(answers([2, 1, 1, 30, 650, 300, 12]), [1, -1, 1, 0])

    def test_nothing_wanted_stays(self):
        answers([0, 1, 1, 0, 0, 0, 0])
        self.assertEqual(answers([1, 40, 650, 300, 12, 2, 1]), [1, 0, 6, 12, 40, 650, 1, 300, 1])

    def test_what_was_given_back_is_not_used_again(self):
        first = answers(SEVERAL)
        first.clear()
        self.assertEqual(answers(SEVERAL), ANSWERED)


if __name__ == "__main__":
    unittest.main()
