"""What an object is ahead of begin, and begin itself."""

import unittest

from helper import BACK, BEST_MORE, BIGGEST, COUNT, LEFT, NEEDED, ORDER, STATE, ask, behind, told

ALL_BUT_BEGIN = (
    ("cap", 10), ("out", 0), ("width", 0, 10), ("each", 2), ("differ", 5), BACK, COUNT, ("punnet", 0),
    ("which", 0), LEFT, ("is_one", []), ("is_one", [0]), ("is_one", list(range(30))), ("spread", 0),
    ("if_differ", 3), ("if_each", 3), ("least", 1), ("more", 10), BEST_MORE, NEEDED, ORDER, STATE,
)


class AheadOfBegin(unittest.TestCase):
    def test_each_call_alone(self):
        for call in ALL_BUT_BEGIN:
            with self.subTest(call=call):
                self.assertEqual(ask(call), [[-61]])

    def test_all_one_behind_another(self):
        self.assertEqual(ask(*ALL_BUT_BEGIN), [[-61]] * len(ALL_BUT_BEGIN))

    def test_goes_ahead_of_every_other_refusal(self):
        wrong = [("cap", 0), ("cap", BIGGEST), ("out", BIGGEST), ("width", BIGGEST, BIGGEST), ("each", 0),
                 ("each", BIGGEST), ("differ", 51), ("differ", BIGGEST), ("punnet", BIGGEST), ("which", BIGGEST),
                 ("is_one", [BIGGEST]), ("is_one", [BIGGEST] * 30), ("spread", BIGGEST), ("if_differ", 51),
                 ("if_differ", BIGGEST), ("if_each", 0), ("if_each", BIGGEST), ("least", 25), ("least", BIGGEST),
                 ("more", 0), ("more", BIGGEST)]
        self.assertEqual(ask(*wrong), [[-61]] * len(wrong))

    def test_calls_ahead_leave_nothing(self):
        ahead = [("cap", 10), ("cap", 10), ("each", 1), ("differ", 50), ("begin", 2, 0)]
        self.assertEqual(behind(ahead, COUNT, LEFT, ("out", 0), BACK, ("each", 2), ("differ", 0)),
                         [[0], [0], [-2], [-2], [-17], [-17]])
        self.assertEqual(behind(ahead, STATE, ORDER, NEEDED), [[2, 0, 0, 0], [0], [0]])

    def test_each_call_behind_a_refused_begin(self):
        for call in ALL_BUT_BEGIN:
            with self.subTest(call=call):
                self.assertEqual(ask(("begin", 7, 51), call, ("begin", 1, 0)), [[-22], [-61], [0]])

    def test_a_refused_begin_does_not_begin(self):
        self.assertEqual(ask(("begin", 0, 5), COUNT, ("begin", 7, 5), LEFT, ("begin", 2, 51), ("cap", 10)),
                         [[-22], [-61], [-22], [-61], [-22], [-61]])

    def test_a_good_begin_behind_a_refused_one(self):
        self.assertEqual(ask(("begin", 0, 5), COUNT, ("begin", 2, 5), COUNT, ("cap", 7)),
                         [[-22], [-61], [0], [0], [0]])


class Begin(unittest.TestCase):
    def test_every_each_and_differ_as_told(self):
        for each in range(1, 7):
            for differ in range(51):
                with self.subTest(each=each, differ=differ):
                    self.assertEqual(ask(("begin", each, differ), ("each", each), ("differ", differ)),
                                     [[0], [-17], [-17]])

    def test_each_not_as_told(self):
        for each in (0, 7, 8, 24, 50, 100, 4294967294, BIGGEST):
            with self.subTest(each=each):
                self.assertEqual(ask(("begin", each, 5)), [[-22]])

    def test_differ_not_as_told(self):
        for differ in (51, 52, 100, 4294967294, BIGGEST):
            with self.subTest(differ=differ):
                self.assertEqual(ask(("begin", 2, differ)), [[-22]])

    def test_both_not_as_told(self):
        self.assertEqual(ask(("begin", 0, 51), ("begin", BIGGEST, BIGGEST), ("begin", 7, 51)), [[-22]] * 3)

    def test_nothing_is_there_behind_begin(self):
        self.assertEqual(ask(("begin", 2, 5), COUNT, LEFT, ("punnet", 0), ("which", 0), BACK),
                         [[0], [0], [0], [-33], [-2], [-2]])

    def test_begin_again_takes_all_mushrooms_away(self):
        ahead = told(1, 5, [10, 20, 30])
        self.assertEqual(behind(ahead, COUNT, ("begin", 2, 7), COUNT, LEFT, ("out", 0), ("cap", 9)),
                         [[3], [0], [0], [0], [-2], [0]])

    def test_begin_again_gives_other_punnets(self):
        ahead = told(1, 5, [10, 20]) + told(3, 7, [])
        self.assertEqual(behind(ahead, ("each", 3), ("differ", 7)), [[-17], [-17]])
        self.assertEqual(behind(ahead, ("each", 1), ("differ", 5)), [[3], [7]])

    def test_begin_again_with_the_same_is_no_refusal(self):
        self.assertEqual(behind(told(2, 5, [10]), ("begin", 2, 5), LEFT), [[0], [0]])

    def test_begin_after_changes_leaves_nothing_to_take_back(self):
        ahead = told(1, 5, [10, 20]) + [("each", 2), ("begin", 1, 5)]
        self.assertEqual(behind(ahead, BACK, BACK), [[-2], [-2]])
        self.assertEqual(behind(ahead, ("cap", 3), BACK, BACK, LEFT), [[0], [0], [-2], [0]])

    def test_begin_itself_is_not_taken_back(self):
        self.assertEqual(ask(("begin", 2, 5), ("begin", 3, 6), BACK, ("each", 3), ("differ", 6)),
                         [[0], [0], [-2], [-17], [-17]])

    def test_a_refused_begin_behind_a_good_one_changes_nothing(self):
        for wrong in (("begin", 0, 5), ("begin", 7, 5), ("begin", 2, 51), ("begin", BIGGEST, BIGGEST)):
            with self.subTest(wrong=wrong):
                ahead = told(2, 5, [10, 12, 30]) + [wrong]
                self.assertEqual(ask(*ahead)[-1], [-22])
                self.assertEqual(behind(ahead, COUNT, LEFT, ("each", 2), ("differ", 5), BACK, BACK, BACK, BACK),
                                 [[1], [1, 2], [-17], [-17], [2], [1], [0], [-2]])


if __name__ == "__main__":
    unittest.main()
