"""answers itself: its list, what it gives back, and that it keeps and changes nothing."""

import unittest

import mushpunnets.punnets
from mushpunnets.punnets import answers

from helper import BIGGEST


def refuse(self, *given):
    raise AssertionError("the list handed in was changed")


class Untouchable(list):
    """A list that tells of any change, were it only for a while."""

    __setitem__ = __delitem__ = __iadd__ = __imul__ = refuse
    append = extend = insert = pop = remove = clear = sort = reverse = refuse


EVERY_CALL = [
    7,
    11, 3, 0, 7, 1,
    0, 2, 5,
    1, 10,
    1, 40,
    1, 14,
    4, 3,
    5, 6,
    3, 1, 41,
    2, 0,
    6,
    6,
    4, 2,
    7,
    8, 0,
    8, 1,
    9, 0,
    9, 1,
    9, BIGGEST,
    10,
    11, 0,
    11, 2, 2, 0,
    11, 3, 0, 2, 3,
    12, 0,
    12, 1,
    13, 50,
    13, 51,
    14, 1,
    14, 0,
    15, 1,
    15, 2,
    15, 25,
    16, 39,
    16, 101,
    17,
    18,
    19,
    20,
    0, 0, 0,
    10,
]

EVERY_ANSWER = [
    1, -61,
    1, -61,
    1, 0,
    1, 0,
    1, 1,
    1, 2,
    1, 2,
    1, 5,
    1, 40,
    1, 2,
    1, 6,
    1, 5,
    1, 3,
    1, 1,
    3, 2, 0, 2,
    1, -33,
    1, 0,
    1, -33,
    1, -2,
    2, 1, 1,
    1, 0,
    1, 1,
    1, -22,
    1, 4,
    1, -33,
    1, 1,
    1, -22,
    1, 3,
    1, -22,
    1, 4,
    1, -33,
    1, -22,
    1, 2,
    1, -22,
    2, 34, 2,
    3, 2, 0, 2,
    4, 3, 0, 2, 1,
    4, 2, 6, 3, 6,
    1, -22,
    2, 1, 1,
]


class Interface(unittest.TestCase):
    def test_by_its_names(self):
        self.assertEqual(mushpunnets.punnets.answers([0, 1, 0]), [1, 0])
        self.assertEqual(mushpunnets.punnets.answers(calls=[0, 1, 0]), [1, 0])

    def test_number_by_number(self):
        self.assertEqual(answers(list(EVERY_CALL)), EVERY_ANSWER)

    def test_a_row_is_passed_over_ahead_of_begin(self):
        self.assertEqual(answers([11, 0, 11, 2, 0, 0, 11, 1, BIGGEST, 0, 1, 0, 7]), [1, -61] * 3 + [1, 0, 1, 0])
        self.assertEqual(answers([11, 30] + [7] * 30 + [7]), [1, -61, 1, -61])

    def test_how_many_numbers_each_call_has_ahead_of_begin(self):
        for call, many in ((1, 1), (2, 1), (3, 2), (4, 1), (5, 1), (6, 0), (7, 0), (8, 1), (9, 1), (10, 0), (12, 1),
                           (13, 1), (14, 1), (15, 1), (16, 1), (17, 0), (18, 0), (19, 0), (20, 0)):
            with self.subTest(call=call):
                self.assertEqual(answers([call] + [BIGGEST] * many + [0, 1, 0]), [1, -61, 1, 0])

    def test_how_many_numbers_each_call_has_behind_begin(self):
        for call, many in ((12, 1), (13, 1), (14, 1), (15, 1), (16, 1), (17, 0), (18, 0), (19, 0), (20, 0)):
            with self.subTest(call=call):
                told = answers([0, 1, 0, call] + [7] * many + [9, 0])
                self.assertEqual(told[:2] + told[-2:], [1, 0, 1, -2])
                self.assertEqual(told[2], len(told) - 5)

    def test_a_row_is_read_to_its_end_behind_begin(self):
        for many in (0, 1, 2, 29, 30):
            for number in (0, 1, 11, 20, BIGGEST):
                with self.subTest(many=many, number=number):
                    one = 0 if many == 0 else -22 if number > 0 else 1 if many == 1 else 0
                    self.assertEqual(answers([0, 1, 0, 1, 9, 11, many] + [number] * many + [20]),
                                     [1, 0, 1, 0, 1, one, 4, 1, 0, 1, 1])

    def test_a_hundred_calls(self):
        self.assertEqual(answers([0, 1, 0] + [1, 9] * 24 + [10, 7, 1, 9] * 25),
                         [1, 0] + [n for i in range(24) for n in (1, i)] + [1, 0, 1, 24, 1, -28] * 25)
        self.assertEqual(answers([7] * 100), [1, -61] * 100)

    def test_a_long_list(self):
        self.assertEqual(answers(([11, 30] + [BIGGEST] * 30) * 100), [1, -61] * 100)
        self.assertEqual(answers([0, 1, 50] + ([11, 30] + [BIGGEST] * 30) * 99), [1, 0] + [1, -22] * 99)

    def test_the_longest_answers(self):
        ahead = [0, 1, 0] + [1, 9] * 24
        for call, expected in (([17], [2, 1, 25]), ([18], [25, 24] + list(range(24))),
                               ([19], [25, 24] + list(range(24))), ([15, 24], [1, 0]), ([20], [4, 1, 0, 24, 10])):
            with self.subTest(call=call):
                self.assertEqual(answers(ahead + call * 75)[50:], expected * 75)

    def test_what_is_given_back_are_whole_numbers_in_a_list(self):
        told = answers(list(EVERY_CALL))
        self.assertIs(type(told), list)
        for number in told:
            self.assertIs(type(number), int)

    def test_the_list_handed_in_is_as_it_was(self):
        calls = list(EVERY_CALL)
        answers(calls)
        self.assertEqual(calls, EVERY_CALL)

    def test_the_list_is_not_changed_for_a_while_either(self):
        self.assertEqual(answers(Untouchable(EVERY_CALL)), EVERY_ANSWER)

    def test_twice_the_same(self):
        calls = list(EVERY_CALL)
        self.assertEqual(answers(calls), answers(calls))

    def test_nothing_is_kept_from_one_time_to_the_next(self):
        answers([0, 2, 5, 1, 10, 1, 11])
        self.assertEqual(answers([7, 6, 10]), [1, -61] * 3)
        self.assertEqual(answers([0, 2, 5, 7, 6, 1, 10]), [1, 0, 1, 0, 1, -2, 1, 0])

    def test_what_was_given_back_is_the_askers_own(self):
        told = answers(list(EVERY_CALL))
        told.clear()
        self.assertEqual(answers(list(EVERY_CALL)), EVERY_ANSWER)


if __name__ == "__main__":
    unittest.main()
