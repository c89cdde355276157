"""cap, out, width, each and differ."""

import unittest

from helper import BACK, BIGGEST, COUNT, LEFT, ask, behind, packing, told

NO_WIDTHS = (0, 101, 102, 4294967294, BIGGEST)


def widths_behind(ahead, many):
    """The widths of that many mushrooms, as width tells what they were."""
    return [answer[0] for answer in behind(ahead, *[("width", i, 1) for i in range(many)])]


class Cap(unittest.TestCase):
    def test_answers_the_number(self):
        self.assertEqual(ask(("begin", 2, 5), ("cap", 30), ("cap", 10), ("cap", 30)), [[0], [0], [1], [2]])

    def test_every_width_as_told(self):
        for width in range(1, 101):
            with self.subTest(width=width):
                self.assertEqual(behind([("begin", 1, 0)], ("cap", width), ("width", 0, 50)), [[0], [width]])

    def test_widths_not_as_told(self):
        for width in NO_WIDTHS:
            with self.subTest(width=width):
                self.assertEqual(ask(("begin", 1, 0), ("cap", width), LEFT, COUNT, BACK),
                                 [[0], [-22], [0], [0], [-2]])

    def test_the_24th_and_the_25th(self):
        ahead = told(1, 0, [10] * 23)
        self.assertEqual(behind(ahead, ("cap", 11), ("cap", 12), COUNT, ("which", 23), ("which", 24)),
                         [[23], [-28], [24], [23], [-2]])

    def test_not_as_told_goes_ahead_of_no_room(self):
        ahead = told(1, 0, [10] * 24)
        self.assertEqual(behind(ahead, ("cap", 0), ("cap", 101), ("cap", BIGGEST), ("cap", 100)),
                         [[-22], [-22], [-22], [-28]])

    def test_no_room_changes_nothing(self):
        ahead = told(1, 0, list(range(1, 25)))
        self.assertEqual(behind(ahead, ("cap", 50), COUNT, BACK, COUNT, LEFT, ("which", 23)),
                         [[-28], [24], [9], [23], [0], [-2]])

    def test_room_again_behind_one_that_goes(self):
        ahead = told(1, 0, [10] * 24)
        self.assertEqual(behind(ahead, ("out", 5), ("cap", 9), ("cap", 9)), [[23], [23], [-28]])


class Out(unittest.TestCase):
    def test_answers_how_many_there_are(self):
        self.assertEqual(behind(told(1, 0, [10, 20, 30]), ("out", 1), ("out", 0), ("out", 0), ("out", 0)),
                         [[2], [1], [0], [-2]])

    def test_those_behind_are_numbered_one_less(self):
        for gone in range(4):
            with self.subTest(gone=gone):
                widths = [40, 10, 30, 20]
                ahead = told(2, 10, widths) + [("out", gone)]
                left = widths[:gone] + widths[gone + 1:]
                self.assertEqual(widths_behind(ahead, 3), left)
                self.assertEqual(packing(ahead), packing(told(2, 10, left)))

    def test_of_like_ones_the_told_one_goes(self):
        ahead = told(2, 0, [5, 7, 5, 7, 5])
        self.assertEqual(behind(ahead, ("out", 2), ("punnet", 0), ("punnet", 1), LEFT),
                         [[4], [2, 0, 3], [2, 1, 2], [0]])

    def test_no_such_mushroom(self):
        ahead = told(1, 0, [10, 20])
        for i in (2, 3, 24, 4294967294, BIGGEST):
            with self.subTest(i=i):
                self.assertEqual(behind(ahead, ("out", i), COUNT, BACK, BACK, BACK), [[-2], [2], [1], [0], [-2]])

    def test_none_at_all(self):
        self.assertEqual(ask(("begin", 1, 0), ("out", 0), BACK), [[0], [-2], [-2]])


class Width(unittest.TestCase):
    def test_answers_what_it_was(self):
        self.assertEqual(behind(told(1, 0, [10, 20]), ("width", 1, 35), ("width", 1, 1), ("width", 1, 100),
                                ("width", 1, 2), ("width", 0, 3)),
                         [[20], [35], [1], [100], [10]])

    def test_only_that_one_is_changed(self):
        ahead = told(2, 3, [10, 20, 30])
        self.assertEqual(behind(ahead, COUNT, ("width", 2, 23), COUNT, ("punnet", 0), LEFT),
                         [[0], [30], [1], [2, 1, 2], [1, 0]])
        self.assertEqual(widths_behind(ahead + [("width", 1, 99)], 3), [10, 99, 30])

    def test_it_keeps_its_number(self):
        ahead = told(1, 0, [10, 20, 30]) + [("width", 2, 5)]
        self.assertEqual(behind(ahead, ("which", 2), ("which", 0), ("which", 1)), [[0], [1], [2]])

    def test_just_as_wide_is_a_change_too(self):
        ahead = told(1, 0, [10])
        self.assertEqual(behind(ahead, ("width", 0, 10), BACK, BACK, BACK), [[10], [1], [0], [-2]])

    def test_no_such_mushroom(self):
        for i in (1, 2, 24, BIGGEST):
            with self.subTest(i=i):
                self.assertEqual(behind(told(1, 0, [10]), ("width", i, 20), BACK, BACK), [[-2], [0], [-2]])

    def test_not_as_told(self):
        for width in NO_WIDTHS:
            with self.subTest(width=width):
                self.assertEqual(behind(told(1, 0, [10]), ("width", 0, width), ("width", 0, 9), BACK, BACK, BACK),
                                 [[-22], [10], [1], [0], [-2]])

    def test_no_such_mushroom_goes_ahead_of_not_as_told(self):
        for width in NO_WIDTHS:
            with self.subTest(width=width):
                self.assertEqual(behind(told(1, 0, [10]), ("width", 1, width), ("width", BIGGEST, width)),
                                 [[-2], [-2]])


class Each(unittest.TestCase):
    def test_answers_what_it_was(self):
        self.assertEqual(ask(("begin", 2, 5), ("each", 6), ("each", 1), ("each", 3)), [[0], [2], [6], [1]])

    def test_that_already(self):
        for each in range(1, 7):
            with self.subTest(each=each):
                self.assertEqual(ask(("begin", each, 5), ("each", each), BACK), [[0], [-17], [-2]])

    def test_that_already_behind_a_change(self):
        self.assertEqual(ask(("begin", 2, 5), ("each", 3), ("each", 3), ("each", 2), ("each", 2)),
                         [[0], [2], [-17], [3], [-17]])

    def test_not_as_told(self):
        for each in (0, 7, 8, 50, 4294967294, BIGGEST):
            with self.subTest(each=each):
                self.assertEqual(ask(("begin", 2, 5), ("each", each), ("each", 2), BACK),
                                 [[0], [-22], [-17], [-2]])

    def test_other_punnets_come(self):
        ahead = told(1, 10, [1, 2, 3, 4, 5, 6, 7])
        for each, count in ((2, 3), (3, 2), (4, 1), (5, 1), (6, 1)):
            with self.subTest(each=each):
                self.assertEqual(behind(ahead, ("each", each), COUNT), [[1], [count]])

    def test_the_difference_and_the_mushrooms_stay(self):
        ahead = told(1, 9, [10, 20, 30]) + [("each", 2)]
        self.assertEqual(behind(ahead, ("differ", 9)), [[-17]])
        self.assertEqual(widths_behind(ahead, 3), [10, 20, 30])


class Differ(unittest.TestCase):
    def test_answers_what_it_was(self):
        self.assertEqual(ask(("begin", 2, 5), ("differ", 50), ("differ", 0), ("differ", 7)),
                         [[0], [5], [50], [0]])

    def test_that_already(self):
        for differ in range(51):
            with self.subTest(differ=differ):
                self.assertEqual(ask(("begin", 2, differ), ("differ", differ), BACK), [[0], [-17], [-2]])

    def test_that_already_behind_a_change(self):
        self.assertEqual(ask(("begin", 2, 5), ("differ", 0), ("differ", 0), ("differ", 5), ("differ", 5)),
                         [[0], [5], [-17], [0], [-17]])

    def test_not_as_told(self):
        for differ in (51, 52, 100, 4294967294, BIGGEST):
            with self.subTest(differ=differ):
                self.assertEqual(ask(("begin", 2, 5), ("differ", differ), ("differ", 5), BACK),
                                 [[0], [-22], [-17], [-2]])

    def test_other_punnets_come(self):
        ahead = told(2, 50, [10, 13, 20, 24])
        self.assertEqual(behind(ahead, COUNT, ("differ", 2), COUNT, ("differ", 3), COUNT, ("differ", 4), COUNT),
                         [[2], [50], [0], [2], [1], [3], [2]])

    def test_how_many_each_has_and_the_mushrooms_stay(self):
        ahead = told(3, 9, [10, 20, 30]) + [("differ", 8)]
        self.assertEqual(behind(ahead, ("each", 3)), [[-17]])
        self.assertEqual(widths_behind(ahead, 3), [10, 20, 30])


if __name__ == "__main__":
    unittest.main()
