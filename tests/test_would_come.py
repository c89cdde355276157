"""if_differ, if_each, least, more and best_more: how many would come."""

import unittest

from helper import BACK, BEST_MORE, BIGGEST, COUNT, behind, told


def each_alone(ahead, name, numbers):
    """What the call answers for each of these numbers."""
    return [answer[0] for answer in behind(ahead, *[(name, number) for number in numbers])]


class IfDiffer(unittest.TestCase):
    AHEAD = told(2, 3, [10, 13, 20, 24, 40, 90])

    def test_how_many_would_come(self):
        self.assertEqual(each_alone(self.AHEAD, "if_differ", (0, 2, 3, 4, 6, 7, 16, 49, 50)),
                         [0, 0, 1, 2, 2, 2, 2, 2, 3])

    def test_as_it_is_already(self):
        self.assertEqual(behind(self.AHEAD, COUNT, ("if_differ", 3)), [[1], [1]])

    def test_the_edges(self):
        ahead = told(2, 3, [10, 10, 50, 100])
        self.assertEqual(each_alone(ahead, "if_differ", (0, 49, 50, 51)), [1, 1, 2, -22])

    def test_not_as_told(self):
        for differ in (51, 52, 99, 100, 4294967294, BIGGEST):
            with self.subTest(differ=differ):
                self.assertEqual(behind(self.AHEAD, ("if_differ", differ), COUNT), [[-22], [1]])
                self.assertEqual(behind(told(2, 3, []), ("if_differ", differ)), [[-22]])

    def test_every_difference_as_told(self):
        ahead = told(2, 3, [1, 26])
        self.assertEqual(each_alone(ahead, "if_differ", range(51)), [0] * 25 + [1] * 26)

    def test_no_mushrooms(self):
        self.assertEqual(each_alone(told(1, 0, []), "if_differ", (0, 50, 51)), [0, 0, -22])

    def test_how_many_each_has_stays(self):
        self.assertEqual(each_alone(told(1, 0, [1, 50, 100]), "if_differ", (0, 50)), [3, 3])
        self.assertEqual(each_alone(told(3, 0, [1, 50, 51]), "if_differ", (49, 50)), [0, 1])

    def test_as_if_it_were_changed(self):
        for differ in range(51):
            with self.subTest(differ=differ):
                asked = behind(self.AHEAD, ("if_differ", differ))
                self.assertEqual(asked, behind(self.AHEAD, ("differ", differ), COUNT)[1:])


class IfEach(unittest.TestCase):
    AHEAD = told(3, 6, [10, 11, 12, 13, 14, 15, 16, 40])

    def test_how_many_would_come(self):
        self.assertEqual(each_alone(self.AHEAD, "if_each", range(1, 7)), [8, 3, 2, 1, 1, 1])

    def test_as_it_is_already(self):
        self.assertEqual(behind(self.AHEAD, COUNT, ("if_each", 3)), [[2], [2]])

    def test_the_edges(self):
        self.assertEqual(each_alone(self.AHEAD, "if_each", (0, 1, 6, 7)), [-22, 8, 1, -22])

    def test_not_as_told(self):
        for each in (0, 7, 8, 24, 50, 4294967294, BIGGEST):
            with self.subTest(each=each):
                self.assertEqual(behind(self.AHEAD, ("if_each", each), COUNT), [[-22], [2]])
                self.assertEqual(behind(told(3, 6, []), ("if_each", each)), [[-22]])

    def test_no_mushrooms(self):
        self.assertEqual(each_alone(told(1, 0, []), "if_each", range(8)), [-22, 0, 0, 0, 0, 0, 0, -22])

    def test_the_difference_stays(self):
        widths = [10, 12, 14, 16, 18, 20]
        self.assertEqual(each_alone(told(1, 3, widths), "if_each", range(1, 7)), [6, 3, 0, 0, 0, 0])
        self.assertEqual(each_alone(told(1, 4, widths), "if_each", range(1, 7)), [6, 3, 2, 0, 0, 0])
        self.assertEqual(each_alone(told(1, 10, widths), "if_each", range(1, 7)), [6, 3, 2, 1, 1, 1])

    def test_as_if_it_were_changed(self):
        for each in (1, 2, 4, 5, 6):
            with self.subTest(each=each):
                asked = behind(self.AHEAD, ("if_each", each))
                self.assertEqual(asked, behind(self.AHEAD, ("each", each), COUNT)[1:])


class Least(unittest.TestCase):
    AHEAD = told(2, 5, [10, 13, 20, 27])

    def test_how_much_at_the_least(self):
        self.assertEqual(each_alone(self.AHEAD, "least", (0, 1, 2)), [0, 3, 7])

    def test_at_the_most_that_can_come_and_at_one_more(self):
        self.assertEqual(each_alone(self.AHEAD, "least", (2, 3, 4, 24)), [7, -33, -33, -33])
        self.assertEqual(each_alone(told(3, 0, [1, 2, 3, 90, 95, 100]), "least", (1, 2, 3)), [2, 10, -33])

    def test_none_need_come(self):
        for widths in ([], [10], [1, 100], [1, 50, 100]):
            self.assertEqual(behind(told(2, 9, widths), ("least", 0)), [[0]])

    def test_n_not_as_told(self):
        for n in (25, 26, 100, 4294967294, BIGGEST):
            with self.subTest(n=n):
                self.assertEqual(behind(self.AHEAD, ("least", n)), [[-22]])
                self.assertEqual(behind(told(1, 0, []), ("least", n)), [[-22]])
                self.assertEqual(behind(told(1, 0, [10] * 24), ("least", n)), [[-22]])

    def test_24_and_25(self):
        self.assertEqual(each_alone(told(1, 0, list(range(1, 25))), "least", (23, 24, 25)), [0, 0, -22])
        self.assertEqual(each_alone(told(1, 0, list(range(1, 24))), "least", (23, 24, 25)), [0, -33, -22])

    def test_no_mushrooms_and_too_few(self):
        self.assertEqual(each_alone(told(1, 0, []), "least", (0, 1, 24, 25)), [0, -33, -33, -22])
        self.assertEqual(each_alone(told(3, 50, [10, 10]), "least", (0, 1)), [0, -33])

    def test_more_than_50_is_needed(self):
        self.assertEqual(each_alone(told(2, 0, [1, 51]), "least", (1,)), [50])
        self.assertEqual(each_alone(told(2, 0, [1, 52]), "least", (1,)), [51])
        self.assertEqual(each_alone(told(2, 50, [10, 70]), "least", (0, 1, 2)), [0, 60, -33])
        self.assertEqual(each_alone(told(2, 50, [1, 100]), "least", (1,)), [99])
        self.assertEqual(each_alone(told(4, 0, [1, 1, 100, 99]), "least", (1, 2)), [99, -33])

    def test_n_or_more(self):
        ahead = told(2, 50, [10, 10, 20, 20, 30, 34])
        self.assertEqual(each_alone(ahead, "least", (0, 1, 2, 3, 4)), [0, 0, 0, 4, -33])

    def test_what_they_may_differ_now_does_not_matter(self):
        for differ in range(0, 51, 5):
            self.assertEqual(each_alone(told(2, differ, [10, 13, 20, 27]), "least", (0, 1, 2, 3)), [0, 3, 7, -33])

    def test_how_many_each_is_to_have_does(self):
        widths = [10, 11, 13, 16, 20, 25]
        found = [each_alone(told(each, 0, widths), "least", (1,)) for each in range(1, 7)]
        self.assertEqual(found, [[0], [1], [3], [6], [10], [15]])

    def test_every_difference(self):
        for differ in range(100):
            with self.subTest(differ=differ):
                self.assertEqual(behind(told(2, 0, [1, 1 + differ]), ("least", 1)), [[differ]])


class More(unittest.TestCase):
    AHEAD = told(2, 5, [10, 20, 22, 90])

    def test_how_many_would_come(self):
        self.assertEqual(each_alone(self.AHEAD, "more", (1, 4, 5, 10, 15, 16, 25, 84, 85, 95, 96, 100)),
                         [1, 1, 2, 2, 2, 1, 1, 1, 2, 2, 1, 1])

    def test_the_edges(self):
        ahead = told(2, 0, [1, 100])
        self.assertEqual(each_alone(ahead, "more", (0, 1, 2, 99, 100, 101)), [-22, 1, 0, 0, 1, -22])

    def test_not_as_told(self):
        for width in (0, 101, 102, 4294967294, BIGGEST):
            with self.subTest(width=width):
                self.assertEqual(behind(self.AHEAD, ("more", width), COUNT), [[-22], [1]])
                self.assertEqual(behind(told(1, 0, []), ("more", width)), [[-22]])
                self.assertEqual(behind(told(1, 0, [10] * 24), ("more", width)), [[-22]])

    def test_no_mushrooms(self):
        self.assertEqual(each_alone(told(1, 0, []), "more", (0, 1, 50, 100, 101)), [-22, 1, 1, 1, -22])
        self.assertEqual(each_alone(told(2, 50, []), "more", (0, 1, 50, 100, 101)), [-22, 0, 0, 0, -22])

    def test_with_24(self):
        self.assertEqual(each_alone(told(1, 0, [10] * 24), "more", (0, 1, 10, 100, 101)), [-22, 25, 25, 25, -22])
        self.assertEqual(each_alone(told(5, 0, [10] * 24), "more", (1, 9, 10, 11, 100)), [4, 4, 5, 4, 4])

    def test_cap_is_still_refused_behind_it_with_24(self):
        self.assertEqual(behind(told(5, 0, [10] * 24), ("more", 10), ("cap", 10), COUNT), [[5], [-28], [4]])

    def test_one_that_lacks(self):
        self.assertEqual(each_alone(told(3, 4, [10, 12]), "more", (7, 8, 14, 15)), [0, 1, 1, 0])

    def test_a_narrow_one_that_keeps_none_from_a_punnet(self):
        self.assertEqual(each_alone(told(2, 5, [10, 15]), "more", (1, 5, 9, 12, 15, 100)), [1, 1, 1, 1, 1, 1])

    def test_as_if_it_were_told(self):
        for width in range(1, 101):
            with self.subTest(width=width):
                asked = behind(self.AHEAD, ("more", width))
                self.assertEqual(asked, behind(self.AHEAD, ("cap", width), COUNT)[1:])


class BestMore(unittest.TestCase):
    def check(self, each, differ, widths, width, count):
        self.assertEqual(behind(told(each, differ, widths), BEST_MORE, COUNT)[0], [width, count])

    def test_of_several_the_least(self):
        self.check(2, 5, [10], 5, 1)
        self.check(2, 5, [40, 50], 35, 1)
        self.check(2, 0, [7, 9], 7, 1)
        self.check(2, 5, [3], 1, 1)
        self.check(2, 5, [6], 1, 1)
        self.check(2, 5, [7], 2, 1)

    def test_just_one_does_it(self):
        self.check(2, 0, [1], 1, 1)
        self.check(2, 0, [57], 57, 1)
        self.check(2, 0, [100], 100, 1)
        self.check(3, 10, [20, 30], 20, 1)
        self.check(2, 1, [50, 50, 100], 99, 2)
        self.check(2, 0, [10, 10, 20], 20, 2)

    def test_far_from_the_others(self):
        self.check(2, 50, [100], 50, 1)
        self.check(2, 50, [51], 1, 1)
        self.check(2, 50, [52], 2, 1)

    def test_none_helps(self):
        self.check(2, 5, [10, 12], 1, 1)
        self.check(3, 5, [10], 1, 0)
        self.check(3, 5, [10, 16], 1, 0)
        self.check(6, 50, [10] * 8, 1, 1)

    def test_no_mushrooms(self):
        self.check(1, 0, [], 1, 1)
        self.check(1, 50, [], 1, 1)
        for each in range(2, 7):
            self.check(each, 50, [], 1, 0)

    def test_one_in_each(self):
        self.check(1, 0, [10, 20], 1, 3)

    def test_with_24(self):
        self.check(1, 0, list(range(1, 25)), 1, 25)
        self.check(5, 0, [10] * 24, 10, 5)
        self.check(5, 3, [10] * 24, 7, 5)
        self.check(2, 0, [10] * 24, 1, 12)
        self.check(6, 50, [10] * 24, 1, 4)

    def test_one_that_lets_others_move_along(self):
        # The 18 is left over; an 8 takes the 10, so that each one behind takes the next, to the last.
        self.check(2, 2, [10, 12, 14, 16, 18], 8, 3)
        self.check(3, 2, [10, 11, 12, 13, 14], 9, 2)

    def test_it_is_the_best_of_more(self):
        for each, differ, widths in ((2, 3, [10, 20, 30, 32]), (3, 6, [10, 20, 26, 40, 41]), (4, 9, [60, 70, 62, 5])):
            ahead = told(each, differ, widths)
            counts = each_alone(ahead, "more", range(1, 51)) + each_alone(ahead, "more", range(51, 101))
            self.assertEqual(behind(ahead, BEST_MORE), [[counts.index(max(counts)) + 1, max(counts)]])

    def test_anew_behind_each_change(self):
        self.assertEqual(behind(told(2, 5, [10]), BEST_MORE, ("cap", 80), ("width", 0, 60), BEST_MORE, ("differ", 6),
                                BEST_MORE, ("each", 3), BEST_MORE, BACK, ("out", 0), BEST_MORE),
                         [[5, 1], [1], [10], [55, 1], [5], [54, 1], [2], [1, 0], [4], [1], [74, 1]])


if __name__ == "__main__":
    unittest.main()
