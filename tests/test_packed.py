"""count, punnet, which and left: how mushrooms are packed."""

import unittest

from helper import BIGGEST, COUNT, LEFT, ask, behind, packing, told


class Corners(unittest.TestCase):
    def check(self, each, differ, widths, punnets, over):
        self.assertEqual(packing(told(each, differ, widths)), (punnets, over))

    def test_no_mushrooms(self):
        for each in range(1, 7):
            self.check(each, 50, [], [], [])

    def test_fewer_than_a_punnet_has(self):
        self.check(4, 50, [10, 10, 10], [], [0, 1, 2])
        self.check(2, 50, [10], [], [0])
        self.check(6, 50, [10] * 5, [], [0, 1, 2, 3, 4])

    def test_just_as_many_as_a_punnet_has(self):
        self.check(4, 50, [10, 10, 10, 10], [[0, 1, 2, 3]], [])
        self.check(6, 0, [10] * 6, [[0, 1, 2, 3, 4, 5]], [])

    def test_one_in_each(self):
        self.check(1, 0, [30, 10, 20], [[1], [2], [0]], [])
        self.check(1, 50, [100, 1], [[1], [0]], [])
        self.check(1, 0, [7], [[0]], [])

    def test_all_alike(self):
        self.check(3, 0, [10] * 8, [[0, 1, 2], [3, 4, 5]], [6, 7])
        self.check(2, 50, [100] * 4, [[0, 1], [2, 3]], [])
        self.check(6, 0, [1] * 24, [list(range(k, k + 6)) for k in (0, 6, 12, 18)], [])

    def test_a_difference_of_0(self):
        self.check(2, 0, [10, 11, 10, 11], [[0, 2], [1, 3]], [])
        self.check(2, 0, [10, 11, 12, 13], [], [0, 1, 2, 3])
        self.check(3, 0, [5, 6, 5, 6, 5, 6, 7], [[0, 2, 4], [1, 3, 5]], [6])

    def test_widths_that_just_differ_so_much(self):
        self.check(2, 5, [10, 15], [[0, 1]], [])
        self.check(2, 5, [10, 16], [], [0, 1])
        self.check(2, 5, [10, 14], [[0, 1]], [])
        self.check(2, 50, [50, 100], [[0, 1]], [])
        self.check(2, 50, [49, 100], [], [0, 1])
        self.check(2, 50, [1, 51], [[0, 1]], [])
        self.check(3, 4, [10, 12, 14], [[0, 1, 2]], [])
        self.check(3, 4, [10, 12, 15], [], [0, 1, 2])

    def test_the_widest_against_the_narrowest_not_against_the_next(self):
        self.check(3, 3, [10, 13, 16], [], [0, 1, 2])
        self.check(4, 2, [1, 3, 5, 7], [], [0, 1, 2, 3])

    def test_the_last_one_in_the_row_that_lacks(self):
        self.check(2, 5, [10, 11, 12], [[0, 1]], [2])
        self.check(3, 5, [10, 11, 12, 13, 14], [[0, 1, 2]], [3, 4])
        self.check(2, 5, [12, 10, 11], [[1, 2]], [0])

    def test_a_narrow_one_that_keeps_none_from_a_punnet(self):
        self.check(2, 5, [1, 10, 12], [[1, 2]], [0])
        self.check(3, 5, [1, 2, 10, 12, 15], [[2, 3, 4]], [0, 1])
        self.check(2, 5, [20, 1, 24, 50, 55], [[0, 2], [3, 4]], [1])
        self.check(3, 3, [10, 12, 13, 14, 15, 16], [[0, 1, 2], [3, 4, 5]], [])
        self.check(3, 3, [9, 12, 13, 14, 15, 16], [[1, 2, 3]], [0, 4, 5])

    def test_the_first_is_left_and_the_next_tries(self):
        self.check(3, 2, [10, 12, 13, 14], [[1, 2, 3]], [0])
        self.check(2, 1, [10, 12, 14, 15, 17], [[2, 3]], [0, 1, 4])

    def test_of_like_ones_the_one_told_first(self):
        self.check(2, 0, [20, 10, 20, 10, 20, 10], [[1, 3], [0, 2]], [4, 5])
        self.check(1, 0, [20, 10, 20, 10], [[1], [3], [0], [2]], [])
        self.check(3, 10, [20, 10, 20, 10], [[1, 3, 0]], [2])

    def test_punnet_as_in_the_row_but_left_rising(self):
        self.check(3, 10, [30, 25, 20, 90, 80, 70], [[2, 1, 0]], [3, 4, 5])
        self.check(2, 3, [90, 50, 52, 70, 1], [[1, 2]], [0, 3, 4])
        self.check(4, 9, [9, 8, 7, 6, 5, 4, 3, 2, 1], [[8, 7, 6, 5], [4, 3, 2, 1]], [0])

    def test_24_in_many_ways(self):
        widths = list(range(24, 0, -1))
        self.check(1, 0, widths, [[i] for i in range(23, -1, -1)], [])
        self.check(5, 4, widths, [list(range(k, k - 5, -1)) for k in (23, 18, 13, 8)], [0, 1, 2, 3])
        self.check(5, 3, widths, [], list(range(24)))


class Answers(unittest.TestCase):
    AHEAD = told(2, 5, [60, 10, 31, 12, 30])

    def test_count(self):
        self.assertEqual(behind(self.AHEAD, COUNT, COUNT), [[2], [2]])

    def test_punnet(self):
        self.assertEqual(behind(self.AHEAD, ("punnet", 0), ("punnet", 1)), [[2, 1, 3], [2, 4, 2]])

    def test_no_such_punnet(self):
        for p in (2, 3, 23, 24, 4294967294, BIGGEST):
            with self.subTest(p=p):
                self.assertEqual(behind(self.AHEAD, ("punnet", p)), [[-33]])
        self.assertEqual(ask(("begin", 1, 0), ("punnet", 0), ("punnet", BIGGEST)), [[0], [-33], [-33]])

    def test_which(self):
        self.assertEqual(behind(self.AHEAD, *[("which", i) for i in range(5)]), [[-33], [0], [1], [0], [1]])

    def test_which_of_no_mushroom(self):
        for i in (5, 6, 24, 4294967294, BIGGEST):
            with self.subTest(i=i):
                self.assertEqual(behind(self.AHEAD, ("which", i)), [[-2]])
        self.assertEqual(ask(("begin", 1, 0), ("which", 0)), [[0], [-2]])

    def test_left(self):
        self.assertEqual(behind(self.AHEAD, LEFT), [[1, 0]])
        self.assertEqual(behind(told(1, 0, [5, 4]), LEFT), [[0]])

    def test_anew_behind_each_change(self):
        self.assertEqual(behind(told(2, 5, [10]), LEFT, ("cap", 14), LEFT, ("width", 0, 20), LEFT, ("differ", 6),
                                ("punnet", 0), ("out", 0), LEFT, ("each", 1), ("punnet", 0)),
                         [[1, 0], [1], [0], [10], [2, 0, 1], [5], [2, 1, 0], [1], [1, 0], [2], [1, 0]])


if __name__ == "__main__":
    unittest.main()
