"""needed, order and state."""

import unittest

from helper import BACK, BIGGEST, COUNT, LEFT, NEEDED, ORDER, STATE, ask, behind, told


class Needed(unittest.TestCase):
    def check(self, each, differ, widths, needed):
        self.assertEqual(behind(told(each, differ, widths), NEEDED), [[len(needed)] + needed])

    def test_no_mushrooms(self):
        for each in range(1, 7):
            self.check(each, 50, [], [])

    def test_none_is(self):
        self.check(2, 5, [10, 11, 12], [])
        self.check(3, 0, [10] * 8, [])
        self.check(2, 5, [10, 20, 30], [])
        self.check(4, 50, [10, 10, 10], [])

    def test_all_are(self):
        self.check(2, 5, [10, 12], [0, 1])
        self.check(1, 0, [30, 10, 20], [0, 1, 2])
        self.check(2, 0, [10] * 4, [0, 1, 2, 3])
        self.check(6, 50, [10] * 24, list(range(24)))
        self.check(1, 0, [50], [0])

    def test_some_are(self):
        self.check(2, 5, [60, 10, 31, 12, 30], [1, 2, 3, 4])
        self.check(2, 5, [10, 14, 18], [1])
        self.check(2, 3, [90, 10, 13, 50, 51, 52], [1, 2])
        self.check(3, 4, [10, 12, 14, 16, 40], [1, 2])

    def test_like_ones_stand_for_one_another(self):
        self.check(2, 0, [5, 5, 5], [])
        self.check(2, 0, [5, 7, 5, 7, 7], [0, 2])
        self.check(2, 5, [10, 10, 15], [])
        self.check(2, 5, [10, 15, 20, 15], [0, 1, 2, 3])
        self.check(2, 5, [10, 15, 15], [])
        self.check(3, 0, [9, 9, 9, 9, 8, 8, 8], [4, 5, 6])

    def test_others_stand_for_one_packed(self):
        ahead = told(2, 5, [10, 12, 14])
        self.assertEqual(behind(ahead, ("punnet", 0), LEFT, NEEDED), [[2, 0, 1], [1, 2], [0]])

    def test_rising_not_as_in_the_row(self):
        self.check(2, 5, [33, 30, 12, 10], [0, 1, 2, 3])
        self.check(2, 2, [80, 70, 50, 48, 72], [1, 2, 3, 4])
        self.check(3, 4, [40, 16, 14, 12, 10], [2, 3])

    def test_each_by_itself(self):
        # Any one may go, though not any two of them.
        self.check(3, 2, [10, 11, 11, 12], [])
        self.check(2, 1, [10, 11, 12, 13, 14], [1, 3])
        self.check(2, 1, [10, 11, 12, 13], [0, 1, 2, 3])

    def test_those_left_over_are_not(self):
        self.check(2, 5, [1, 20, 22, 90], [1, 2])

    def test_as_if_it_were_gone(self):
        ahead = told(3, 9, [10, 14, 19, 25, 27, 33, 60, 61, 69, 70])
        count = behind(ahead, COUNT)[0][0]
        needed = [i for i in range(10) if behind(ahead, ("out", i), COUNT)[1][0] < count]
        self.assertEqual(behind(ahead, NEEDED), [[len(needed)] + needed])

    def test_anew_behind_each_change(self):
        self.assertEqual(behind(told(2, 5, [10]), NEEDED, ("cap", 15), NEEDED, ("cap", 12), NEEDED, ("width", 2, 20),
                                NEEDED, ("differ", 4), NEEDED, ("each", 1), NEEDED, ("out", 0), NEEDED, BACK, BACK,
                                BACK, NEEDED),
                         [[0], [1], [2, 0, 1], [2], [0], [12], [1, 1], [5], [0], [2], [3, 0, 1, 2], [2], [2, 0, 1],
                          [6], [5], [4], [1, 1]])


class Order(unittest.TestCase):
    def check(self, widths, order):
        self.assertEqual(behind(told(2, 5, widths), ORDER), [[len(order)] + order])

    def test_the_narrowest_first(self):
        self.check([30, 10, 20], [1, 2, 0])
        self.check([1, 2, 3], [0, 1, 2])
        self.check([100, 99, 1], [2, 1, 0])
        self.check([9, 10, 100, 11], [0, 1, 3, 2])

    def test_no_mushrooms_and_one(self):
        self.check([], [])
        self.check([50], [0])

    def test_of_like_ones_the_one_told_first(self):
        self.check([20, 10, 20, 10], [1, 3, 0, 2])
        self.check([5] * 24, list(range(24)))
        self.check([7, 7, 3, 7, 3], [2, 4, 0, 1, 3])

    def test_24(self):
        self.check(list(range(24, 0, -1)), list(range(23, -1, -1)))

    def test_those_left_over_stand_in_it_too(self):
        ahead = told(2, 5, [60, 10, 31, 12, 30])
        self.assertEqual(behind(ahead, LEFT, ORDER), [[1, 0], [5, 1, 3, 4, 2, 0]])

    def test_how_they_are_packed_does_not_matter(self):
        for each in range(1, 7):
            for differ in (0, 5, 50):
                self.assertEqual(behind(told(each, differ, [30, 10, 20, 10]), ORDER), [[4, 1, 3, 2, 0]])

    def test_anew_behind_each_change(self):
        self.assertEqual(behind(told(2, 5, [20, 10]), ORDER, ("cap", 15), ORDER, ("width", 1, 20), ORDER, ("out", 0),
                                ORDER, BACK, BACK, ORDER),
                         [[2, 1, 0], [2], [3, 1, 2, 0], [10], [3, 2, 0, 1], [2], [2, 1, 0], [4], [3],
                          [3, 1, 2, 0]])


class State(unittest.TestCase):
    def test_behind_begin(self):
        for each in range(1, 7):
            for differ in (0, 1, 49, 50):
                self.assertEqual(ask(("begin", each, differ), STATE), [[0], [each, differ, 0, 0]])

    def test_behind_each_change(self):
        self.assertEqual(ask(("begin", 2, 5), ("cap", 10), STATE, ("cap", 20), STATE, ("width", 0, 9), STATE,
                             ("each", 3), STATE, ("differ", 7), STATE, ("out", 1), STATE)[2::2],
                         [[2, 5, 1, 1], [2, 5, 2, 2], [2, 5, 2, 3], [3, 5, 2, 4], [3, 7, 2, 5], [3, 7, 1, 6]])

    def test_behind_backs(self):
        ahead = told(2, 5, [10, 20]) + [("each", 3), ("differ", 7), ("out", 1)]
        self.assertEqual(behind(ahead, BACK, STATE, BACK, STATE, BACK, STATE, BACK, STATE, BACK, STATE, BACK,
                                STATE)[1::2],
                         [[3, 7, 2, 4], [3, 5, 2, 3], [2, 5, 2, 2], [2, 5, 1, 1], [2, 5, 0, 0], [2, 5, 0, 0]])

    def test_ten_at_the_most(self):
        for many, can in ((9, 9), (10, 10), (11, 10), (24, 10)):
            with self.subTest(many=many):
                self.assertEqual(behind(told(1, 0, [10] * many), STATE), [[1, 0, many, can]])

    def test_backs_from_ten(self):
        ahead = told(1, 0, [10] * 12)
        self.assertEqual(behind(ahead, BACK, STATE, ("cap", 9), STATE, ("cap", 9), STATE, BACK, STATE),
                         [[9], [1, 0, 11, 9], [11], [1, 0, 12, 10], [12], [1, 0, 13, 10], [9], [1, 0, 12, 9]])

    def test_behind_a_second_begin(self):
        ahead = told(2, 5, [10, 20, 30]) + [("each", 3)]
        self.assertEqual(behind(ahead, STATE, ("begin", 4, 0), STATE, BACK, STATE, ("cap", 1), STATE),
                         [[3, 5, 3, 4], [0], [4, 0, 0, 0], [-2], [4, 0, 0, 0], [0], [4, 0, 1, 1]])

    def test_behind_a_refused_second_begin(self):
        ahead = told(2, 5, [10, 20, 30])
        for wrong in (("begin", 0, 5), ("begin", 7, 5), ("begin", 3, 51), ("begin", BIGGEST, BIGGEST)):
            with self.subTest(wrong=wrong):
                self.assertEqual(behind(ahead, wrong, STATE), [[-22], [2, 5, 3, 3]])

    def test_behind_refused_changes(self):
        ahead = told(2, 5, [10, 20])
        for wrong, number in ((("cap", 0), -22), (("out", 2), -2), (("width", 2, 9), -2), (("width", 0, 101), -22),
                              (("each", 2), -17), (("each", 0), -22), (("differ", 5), -17), (("differ", 51), -22)):
            with self.subTest(wrong=wrong):
                self.assertEqual(behind(ahead, wrong, STATE), [[number], [2, 5, 2, 2]])
        self.assertEqual(behind(told(1, 0, [9] * 24), BACK, ("cap", 9), ("cap", 9), STATE),
                         [[9], [23], [-28], [1, 0, 24, 10]])


if __name__ == "__main__":
    unittest.main()
