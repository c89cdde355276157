"""is_one and spread."""

import unittest
from itertools import combinations, permutations, product

from helper import BIGGEST, COUNT, behind, told

NO_SUCH_PUNNETS = (24, 4294967294, BIGGEST)


def is_one(ahead, mushrooms):
    """What is_one answers of the row, which the next call shows to be read to its end."""
    found = behind(ahead, ("is_one", list(mushrooms)), COUNT)
    if len(found) != 2 or found[1:] != behind(ahead, COUNT):
        raise AssertionError(f"the call behind is_one answers otherwise: {found}")
    return found[0]


class IsOne(unittest.TestCase):
    AHEAD = told(3, 5, [30, 10, 12, 15, 16, 10])

    def test_these_make_one(self):
        for mushrooms in ([1, 2, 3], [1, 5, 2], [1, 3, 5], [2, 3, 4], [2, 3, 5]):
            with self.subTest(mushrooms=mushrooms):
                self.assertEqual(is_one(self.AHEAD, mushrooms), [1])

    def test_these_differ_too_much(self):
        for mushrooms in ([1, 2, 4], [4, 5, 3], [0, 1, 2], [0, 3, 4]):
            with self.subTest(mushrooms=mushrooms):
                self.assertEqual(is_one(self.AHEAD, mushrooms), [0])

    def test_in_whatever_order(self):
        for mushrooms in permutations((1, 2, 3)):
            self.assertEqual(is_one(self.AHEAD, mushrooms), [1])
        for mushrooms in permutations((1, 2, 4)):
            self.assertEqual(is_one(self.AHEAD, mushrooms), [0])

    def test_those_packed_otherwise_or_left_over_may_make_one(self):
        ahead = told(2, 5, [10, 11, 12])
        self.assertEqual(behind(ahead, ("which", 0), ("which", 1), ("which", 2)), [[0], [0], [-33]])
        self.assertEqual([is_one(ahead, pair) for pair in ((0, 1), (0, 2), (1, 2))], [[1], [1], [1]])

    def test_no_numbers(self):
        self.assertEqual(is_one(self.AHEAD, []), [0])
        for each in range(1, 7):
            self.assertEqual(is_one(told(each, 50, []), []), [0])

    def test_one_told_twice(self):
        self.assertEqual(is_one(self.AHEAD, [1, 1, 2]), [0])
        self.assertEqual(is_one(self.AHEAD, [1, 2, 1]), [0])
        self.assertEqual(is_one(self.AHEAD, [5, 5, 5]), [0])
        self.assertEqual(is_one(told(2, 50, [10, 10]), [1, 1]), [0])

    def test_enough_without_the_one_told_twice(self):
        self.assertEqual(is_one(self.AHEAD, [1, 2, 3, 3]), [0])
        self.assertEqual(is_one(told(1, 0, [10, 20]), [1, 1]), [0])
        self.assertEqual(is_one(told(1, 0, [10]), [0] * 30), [0])

    def test_like_ones_are_not_one_told_twice(self):
        self.assertEqual(is_one(told(2, 0, [10, 10]), [0, 1]), [1])
        self.assertEqual(is_one(told(3, 0, [10, 7, 10, 10]), [3, 0, 2]), [1])

    def test_too_few_and_too_many(self):
        ahead = told(3, 0, [10] * 24)
        for many in range(25):
            with self.subTest(many=many):
                self.assertEqual(is_one(ahead, range(many)), [1 if many == 3 else 0])

    def test_a_number_of_no_mushroom_among_others(self):
        for wrong in (6, 7, 24, 30, 4294967294, BIGGEST):
            for mushrooms in ([wrong, 1, 2, 3], [1, wrong, 2, 3], [1, 2, 3, wrong], [1, 2, wrong], [wrong, 1, 2]):
                with self.subTest(mushrooms=mushrooms):
                    self.assertEqual(is_one(self.AHEAD, mushrooms), [-22])

    def test_of_no_mushroom_goes_ahead_of_no_punnet(self):
        for mushrooms in ([6], [BIGGEST], [1, 1, 6], [6, 6, 6], [0, 1, 2, 3, 4, 6], [0, 1, 6], [6] * 30,
                          [1] * 29 + [6], [6] + [1] * 29):
            with self.subTest(mushrooms=mushrooms):
                self.assertEqual(is_one(self.AHEAD, mushrooms), [-22])

    def test_of_no_mushroom_where_there_is_none(self):
        self.assertEqual(is_one(told(1, 0, []), [0]), [-22])
        self.assertEqual(is_one(told(2, 0, []), [BIGGEST, 0]), [-22])

    def test_a_row_of_thirty(self):
        self.assertEqual(is_one(self.AHEAD, [1, 2, 3] * 10), [0])
        self.assertEqual(is_one(told(6, 50, [10] * 24), list(range(24)) + [0] * 6), [0])

    def test_one_in_each(self):
        ahead = told(1, 0, [100, 1, 50])
        self.assertEqual([is_one(ahead, [i]) for i in range(4)], [[1], [1], [1], [-22]])

    def test_six_in_each(self):
        ahead = told(6, 5, [15, 14, 13, 12, 11, 10, 9])
        self.assertEqual(is_one(ahead, [0, 1, 2, 3, 4, 5]), [1])
        self.assertEqual(is_one(ahead, [6, 5, 4, 3, 2, 1]), [1])
        self.assertEqual(is_one(ahead, [0, 6, 1, 2, 3, 4]), [0])

    def test_just_so_different_and_one_more(self):
        for differ in (0, 1, 5, 49, 50):
            for each in range(2, 7):
                with self.subTest(differ=differ, each=each):
                    widths = [20] * (each - 1) + [20 + differ, 21 + differ]
                    just = list(range(each))
                    self.assertEqual(is_one(told(each, differ, widths), just), [1])
                    self.assertEqual(is_one(told(each, differ, widths), just[:-1] + [each]), [0])

    def test_the_widest_and_the_narrowest_need_not_be_the_ends_of_the_row(self):
        ahead = told(4, 5, [12, 10, 16, 13])
        self.assertEqual(is_one(ahead, [0, 1, 2, 3]), [0])
        self.assertEqual(is_one(ahead + [("width", 2, 15)], [0, 1, 2, 3]), [1])

    def test_anew_behind_each_change(self):
        asked = ("is_one", [0, 1])
        self.assertEqual(behind(told(2, 5, [10]), asked, ("cap", 15), asked, ("width", 1, 16), asked, ("differ", 6),
                                asked, ("each", 3), asked, ("back",), asked, ("out", 0), asked),
                         [[-22], [1], [1], [15], [0], [5], [1], [2], [0], [4], [1], [1], [-22]])

    def test_every_row_of_few(self):
        widths = [10, 14, 11, 10]
        for each, differ in product((1, 2, 3), (0, 1, 3, 4)):
            ahead = told(each, differ, widths)
            good = [set(some) for some in combinations(range(4), each)
                    if max(widths[i] for i in some) - min(widths[i] for i in some) <= differ]
            for many in range(4):
                rows = [list(row) for row in product(range(5), repeat=many)]
                for at in range(0, len(rows), 90):
                    part = rows[at:at + 90]
                    expected = [[-22] if 4 in row else [int(many == each and set(row) in good)] for row in part]
                    with self.subTest(each=each, differ=differ, many=many, at=at):
                        self.assertEqual(behind(ahead, *[("is_one", row) for row in part]), expected)


class Spread(unittest.TestCase):
    AHEAD = told(2, 5, [60, 10, 31, 12, 30, 65])

    def test_each_punnet(self):
        self.assertEqual(behind(self.AHEAD, ("spread", 0), ("spread", 1), ("spread", 2)), [[2], [1], [5]])

    def test_the_one_behind_the_last(self):
        self.assertEqual(behind(self.AHEAD, COUNT, ("spread", 2), ("spread", 3)), [[3], [5], [-33]])

    def test_no_such_punnet(self):
        for p in (3, 4) + NO_SUCH_PUNNETS:
            with self.subTest(p=p):
                self.assertEqual(behind(self.AHEAD, ("spread", p)), [[-33]])

    def test_no_mushrooms_or_too_few(self):
        self.assertEqual(behind(told(1, 50, []), ("spread", 0), ("spread", BIGGEST)), [[-33], [-33]])
        self.assertEqual(behind(told(3, 50, [10, 10]), ("spread", 0)), [[-33]])

    def test_one_in_each(self):
        self.assertEqual(behind(told(1, 50, [30, 99, 1]), *[("spread", p) for p in range(4)]),
                         [[0], [0], [0], [-33]])

    def test_all_alike(self):
        self.assertEqual(behind(told(2, 50, [10] * 5), ("spread", 0), ("spread", 1), ("spread", 2)),
                         [[0], [0], [-33]])

    def test_the_widest_against_the_narrowest(self):
        self.assertEqual(behind(told(3, 50, [40, 10, 12]), ("spread", 0)), [[30]])
        self.assertEqual(behind(told(3, 50, [40, 10, 39]), ("spread", 0)), [[30]])
        self.assertEqual(behind(told(2, 50, [100, 50]), ("spread", 0)), [[50]])

    def test_those_left_over_do_not_count(self):
        self.assertEqual(behind(told(2, 5, [1, 10, 13, 90]), ("spread", 0), ("spread", 1)), [[3], [-33]])

    def test_24(self):
        widths = list(range(24, 0, -1))
        self.assertEqual(behind(told(6, 5, widths), *[("spread", p) for p in range(5)]), [[5]] * 4 + [[-33]])
        self.assertEqual(behind(told(1, 5, widths), ("spread", 23), ("spread", 24)), [[0], [-33]])

    def test_anew_behind_each_change(self):
        asked = ("spread", 0)
        self.assertEqual(behind(told(2, 5, [10]), asked, ("cap", 14), asked, ("width", 0, 9), asked, ("differ", 4),
                                asked, ("back",), asked, ("out", 0), asked),
                         [[-33], [1], [4], [10], [5], [5], [-33], [3], [5], [1], [-33]])


if __name__ == "__main__":
    unittest.main()
