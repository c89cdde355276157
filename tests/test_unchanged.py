"""No question changes anything: what follows answers as if it had not been asked."""

import unittest

from helper import BACK, BEST_MORE, BIGGEST, COUNT, LEFT, NEEDED, ORDER, STATE, behind, told

AHEAD = told(2, 5, [10, 30, 14, 33, 60, 12]) + [("each", 3), ("differ", 6), ("width", 4, 61), ("each", 2)]

SEEN = [STATE, ORDER, COUNT, LEFT, NEEDED, BEST_MORE, ("punnet", 0), ("punnet", 1)] + [BACK, STATE, ORDER, LEFT] * 11

WIDTHS = [("width", i, 100) for i in range(6)] + [("each", 6), ("differ", 50), ("cap", 1), STATE]

ANSWERED = (
    (("is_one", []), [0]), (("is_one", [0, 2]), [1]), (("is_one", [2, 0]), [1]), (("is_one", [0, 1]), [0]),
    (("is_one", [0, 0]), [0]), (("is_one", list(range(6)) * 5), [0]),
    (("spread", 0), [2]), (("spread", 1), [3]),
    (("if_differ", 0), [0]), (("if_differ", 6), [2]), (("if_differ", 50), [3]),
    (("if_each", 1), [6]), (("if_each", 2), [2]), (("if_each", 6), [0]),
    (("least", 0), [0]), (("least", 2), [3]), (("least", 3), [28]),
    (("more", 1), [2]), (("more", 10), [3]), (("more", 100), [2]),
    (BEST_MORE, [4, 3]), (NEEDED, [2, 1, 3]), (ORDER, [6, 0, 5, 2, 1, 3, 4]), (STATE, [2, 6, 6, 10]),
)

REFUSED = (
    (("is_one", [6]), [-22]), (("is_one", [0, 2, 6]), [-22]), (("is_one", [BIGGEST, 0]), [-22]),
    (("is_one", [BIGGEST] * 30), [-22]),
    (("spread", 2), [-33]), (("spread", BIGGEST), [-33]),
    (("if_differ", 51), [-22]), (("if_differ", BIGGEST), [-22]),
    (("if_each", 0), [-22]), (("if_each", 7), [-22]), (("if_each", BIGGEST), [-22]),
    (("least", 25), [-22]), (("least", BIGGEST), [-22]), (("least", 4), [-33]), (("least", 24), [-33]),
    (("more", 0), [-22]), (("more", 101), [-22]), (("more", BIGGEST), [-22]),
)


class NothingIsChanged(unittest.TestCase):
    def test_by_a_question(self):
        seen = behind(AHEAD, *SEEN)
        widths = behind(AHEAD, *WIDTHS)
        for call, expected in ANSWERED + REFUSED:
            with self.subTest(call=call):
                self.assertEqual(behind(AHEAD, call, *SEEN), [expected] + seen)
                self.assertEqual(behind(AHEAD, call, *WIDTHS), [expected] + widths)

    def test_by_all_one_behind_another(self):
        for some in (ANSWERED, REFUSED, REFUSED[::-1], ANSWERED[::-1]):
            calls = [call for call, expected in some]
            self.assertEqual(behind(AHEAD, *calls, *SEEN),
                             [expected for call, expected in some] + behind(AHEAD, *SEEN))

    def test_by_one_asked_twice(self):
        for call, expected in ANSWERED + REFUSED:
            with self.subTest(call=call):
                self.assertEqual(behind(AHEAD, call, call, call), [expected] * 3)

    def test_between_changes_and_backs(self):
        changes = [("cap", 20), ("out", 0), BACK, ("width", 0, 50), ("differ", 3), BACK, BACK, BACK, ("cap", 7)]
        plain = behind(AHEAD, *changes)
        for call, expected in ANSWERED + REFUSED:
            with self.subTest(call=call):
                between = [part for change in changes for part in (call, change)]
                self.assertEqual(behind(AHEAD, *between)[1::2], plain)

    def test_with_none_and_with_24(self):
        for ahead in (told(2, 5, []), told(2, 5, list(range(1, 49, 2)))):
            can = min(10, len(ahead) - 1)
            seen = behind(ahead, *SEEN)
            for call, expected in ANSWERED + REFUSED:
                with self.subTest(call=call, many=len(ahead) - 1):
                    found = behind(ahead, call, *SEEN)
                    self.assertEqual(found[1:], seen)
                    self.assertEqual(found[1], [2, 5, len(ahead) - 1, can])


if __name__ == "__main__":
    unittest.main()
