"""back, and that a refusal changes nothing and can't be taken back."""

import unittest

from helper import BACK, BIGGEST, COUNT, LEFT, ask, behind, told


class Back(unittest.TestCase):
    def test_nothing_to_take_back(self):
        self.assertEqual(ask(("begin", 2, 5), BACK, BACK, COUNT), [[0], [-2], [-2], [0]])

    def test_a_cap(self):
        self.assertEqual(behind(told(1, 5, [10, 20]), BACK, COUNT, ("which", 1), ("cap", 30), ("width", 1, 4)),
                         [[1], [1], [-2], [1], [30]])

    def test_an_out_puts_it_where_it_was(self):
        widths = [40, 10, 30, 20]
        for gone in range(4):
            with self.subTest(gone=gone):
                found = behind(told(1, 5, widths), ("out", gone), BACK, *[("width", i, 50) for i in range(4)])
                self.assertEqual(found, [[3], [4]] + [[width] for width in widths])

    def test_a_width(self):
        self.assertEqual(behind(told(1, 5, [10, 20]), ("width", 0, 99), BACK, ("width", 0, 5), ("width", 1, 6)),
                         [[10], [2], [10], [20]])

    def test_an_each(self):
        self.assertEqual(behind(told(1, 5, [10, 12]), ("each", 2), COUNT, BACK, COUNT, ("each", 1), ("each", 2)),
                         [[1], [1], [2], [2], [-17], [1]])

    def test_a_differ(self):
        self.assertEqual(behind(told(2, 5, [10, 12]), ("differ", 1), COUNT, BACK, COUNT, ("differ", 5)),
                         [[5], [0], [2], [1], [-17]])

    def test_each_and_differ_in_turn(self):
        self.assertEqual(ask(("begin", 2, 5), ("each", 3), ("differ", 6), ("each", 4), BACK, ("each", 3), BACK,
                             ("differ", 5), ("each", 3), BACK, ("each", 2), BACK),
                         [[0], [2], [5], [3], [2], [-17], [1], [-17], [-17], [0], [-17], [-2]])

    def test_one_behind_another(self):
        ahead = told(1, 0, [10, 20, 30])
        self.assertEqual(behind(ahead, BACK, LEFT, COUNT, BACK, COUNT, BACK, COUNT, BACK),
                         [[2], [0], [2], [1], [1], [0], [0], [-2]])

    def test_back_undoes_no_back(self):
        ahead = told(1, 0, [10, 20])
        self.assertEqual(behind(ahead, ("width", 1, 90), BACK, BACK, COUNT, ("width", 0, 1)),
                         [[20], [2], [1], [1], [10]])

    def test_the_tenth_and_the_eleventh(self):
        ahead = told(1, 0, list(range(1, 12)))
        found = behind(ahead, *[BACK] * 12, COUNT, ("width", 0, 50))
        self.assertEqual(found, [[k] for k in range(9, -1, -1)] + [[-2], [-2], [1], [1]])

    def test_just_ten(self):
        ahead = told(1, 0, list(range(1, 11)))
        found = behind(ahead, *[BACK] * 11, COUNT)
        self.assertEqual(found, [[k] for k in range(9, -1, -1)] + [[-2], [0]])

    def test_nine(self):
        ahead = told(1, 0, list(range(1, 10)))
        found = behind(ahead, *[BACK] * 10, COUNT)
        self.assertEqual(found, [[k] for k in range(8, -1, -1)] + [[-2], [0]])

    def test_the_last_ten_of_many(self):
        ahead = told(1, 0, [1]) + [("width", 0, w) for w in range(2, 60)]
        found = behind(ahead, *[BACK] * 11, ("width", 0, 100))
        self.assertEqual(found, [[k] for k in range(9, -1, -1)] + [[-2], [49]])

    def test_ten_of_every_sort(self):
        changes = [("cap", 8), ("cap", 9), ("cap", 10), ("out", 0), ("width", 0, 11), ("each", 2), ("differ", 3),
                   ("out", 0), ("cap", 7), ("width", 0, 50), ("each", 3)]
        ahead = [("begin", 1, 0)] + changes
        self.assertEqual(behind(ahead, *[BACK] * 11, COUNT, ("each", 1), ("differ", 0), ("width", 0, 1)),
                         [[k] for k in range(9, -1, -1)] + [[-2], [1], [-17], [-17], [8]])

    def test_what_is_too_old_stays_so_behind_a_back(self):
        ahead = told(1, 0, list(range(1, 13)))
        found = behind(ahead, BACK, BACK, ("cap", 50), *[BACK] * 10, COUNT)
        self.assertEqual(found, [[9], [8], [10]] + [[k] for k in range(8, -1, -1)] + [[-2], [2]])

    def test_full_again_behind_a_back(self):
        ahead = told(1, 0, list(range(1, 12)))
        found = behind(ahead, BACK, ("cap", 60), ("cap", 61), *[BACK] * 11, COUNT)
        self.assertEqual(found, [[9], [10], [11]] + [[k] for k in range(9, -1, -1)] + [[-2], [2]])

    def test_an_out_at_24_is_taken_back(self):
        ahead = told(1, 0, list(range(1, 25)))
        self.assertEqual(behind(ahead, ("out", 3), BACK, ("cap", 9), COUNT, ("width", 3, 50)),
                         [[23], [9], [-28], [24], [4]])

    def test_questions_are_not_taken_back(self):
        ahead = told(1, 0, [10, 20])
        self.assertEqual(behind(ahead, COUNT, LEFT, ("punnet", 0), ("which", 0), ("punnet", 9), ("which", 9), BACK,
                                COUNT),
                         [[2], [0], [1, 0], [0], [-33], [-2], [1], [1]])


class RefusalsChangeNothing(unittest.TestCase):
    AHEAD = told(2, 5, [10, 30, 14, 33, 60, 12]) + [("each", 3), ("differ", 6), ("width", 4, 61), ("each", 2)]
    SEEN = ([COUNT, LEFT] + [("punnet", p) for p in range(4)] + [("which", i) for i in range(7)]
            + [("each", 2), ("differ", 6)] + [BACK, COUNT, LEFT] * 11)
    WIDTHS = [("width", i, 100) for i in range(6)] + [("each", 6), ("differ", 50), ("cap", 1)]

    REFUSED = (
        (("begin", 0, 6), -22), (("begin", 7, 6), -22), (("begin", 3, 51), -22), (("begin", BIGGEST, BIGGEST), -22),
        (("cap", 0), -22), (("cap", 101), -22), (("cap", BIGGEST), -22),
        (("out", 6), -2), (("out", BIGGEST), -2),
        (("width", 6, 20), -2), (("width", 6, 0), -2), (("width", BIGGEST, BIGGEST), -2),
        (("width", 0, 0), -22), (("width", 5, 101), -22), (("width", 5, BIGGEST), -22),
        (("each", 0), -22), (("each", 7), -22), (("each", BIGGEST), -22), (("each", 2), -17),
        (("differ", 51), -22), (("differ", BIGGEST), -22), (("differ", 6), -17),
        (("punnet", 2), -33), (("punnet", 24), -33), (("punnet", BIGGEST), -33),
        (("which", 6), -2), (("which", BIGGEST), -2), (("which", 4), -33),
    )

    def test_as_if_it_had_not_been(self):
        seen = behind(self.AHEAD, *self.SEEN)
        widths = behind(self.AHEAD, *self.WIDTHS)
        for call, number in self.REFUSED:
            with self.subTest(call=call):
                self.assertEqual(behind(self.AHEAD, call, *self.SEEN), [[number]] + seen)
                self.assertEqual(behind(self.AHEAD, call, *self.WIDTHS), [[number]] + widths)

    def test_all_of_them_one_behind_another(self):
        calls = [call for call, number in self.REFUSED]
        numbers = [[number] for call, number in self.REFUSED]
        self.assertEqual(behind(self.AHEAD, *calls, *self.SEEN), numbers + behind(self.AHEAD, *self.SEEN))

    def test_a_refused_back(self):
        ahead = [("begin", 2, 5), ("cap", 10), BACK]
        self.assertEqual(behind(ahead, BACK, ("cap", 20), ("cap", 21), COUNT, BACK, BACK, BACK),
                         [[-2], [0], [1], [1], [1], [0], [-2]])


if __name__ == "__main__":
    unittest.main()
