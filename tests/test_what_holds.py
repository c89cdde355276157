"""What holds of every packing, a to e, over all small lists of mushrooms and many drawn ones."""

import random
import unittest
from itertools import combinations, permutations, product

from helper import BEST_MORE, COUNT, NEEDED, ORDER, behind, packing, told


def most_by_any_way(widths, each, differ):
    """How many punnets come at the most, however the mushrooms are put together."""
    if len(widths) < each:
        return 0
    others = widths[1:]
    most = most_by_any_way(others, each, differ)
    for chosen in combinations(range(len(others)), each - 1):
        within = [widths[0]] + [others[i] for i in chosen]
        if max(within) - min(within) <= differ:
            rest = [width for i, width in enumerate(others) if i not in chosen]
            most = max(most, 1 + most_by_any_way(rest, each, differ))
    return most


def drawn(lists, most, widest=100):
    """So many times: how many each has, how much they may differ, and at most so many mushrooms."""
    for seed in range(lists):
        chance = random.Random(seed)
        top = chance.choice((4, 12, 40, 100))
        many = chance.choice((most, most - 1, chance.randint(0, most)))
        widths = [chance.randint(1, min(top, widest)) for k in range(many)]
        yield chance.randint(1, 6), chance.choice((0, 1, 50, chance.randint(0, max(1, top // 3)))), widths


def one_number(ahead, *calls):
    """What each of these calls, which answer one number, answers."""
    return [number for number, in behind(ahead, *calls)]


def all_of_more(ahead):
    """What more answers for each width, from 1 to 100."""
    asked = [("more", width) for width in range(1, 101)]
    return one_number(ahead, *asked[:50]) + one_number(ahead, *asked[50:])


def asked_of_counts(ahead):
    """All that is told of how many come, and of nothing that has a mushroom's number."""
    return behind(ahead, COUNT, *[("if_differ", differ) for differ in range(0, 51, 5)],
                  *[("if_each", each) for each in range(1, 7)], *[("least", n) for n in (1, 2, 3, 4, 6, 12)])


class ByNoWayMore(unittest.TestCase):
    def test_all_small_lists(self):
        for widths in product((1, 2, 4, 7), repeat=5):
            for each, differ in ((2, 1), (2, 3), (3, 2), (3, 3)):
                with self.subTest(widths=widths, each=each, differ=differ):
                    self.assertEqual(behind(told(each, differ, widths), COUNT),
                                     [[most_by_any_way(list(widths), each, differ)]])

    def test_drawn_lists(self):
        for each, differ, widths in drawn(250, 8):
            with self.subTest(each=each, differ=differ, widths=widths):
                self.assertEqual(behind(told(each, differ, widths), COUNT),
                                 [[most_by_any_way(widths, each, differ)]])

    def test_what_would_come_is_the_most_too(self):
        for each, differ, widths in drawn(80, 7):
            ahead = told(each, differ, widths)
            with self.subTest(each=each, differ=differ, widths=widths):
                for other in (0, 1, 3, 10, 50):
                    self.assertEqual(one_number(ahead, ("if_differ", other)), [most_by_any_way(widths, each, other)])
                for other in range(1, 7):
                    self.assertEqual(one_number(ahead, ("if_each", other)), [most_by_any_way(widths, other, differ)])
                for width in (1, 5, 20, 100):
                    self.assertEqual(one_number(ahead, ("more", width)),
                                     [most_by_any_way(widths + [width], each, differ)])

    def test_without_one_needed_fewer_come_by_any_way(self):
        for each, differ, widths in drawn(100, 7):
            with self.subTest(each=each, differ=differ, widths=widths):
                most = most_by_any_way(widths, each, differ)
                needed = [i for i in range(len(widths))
                          if most_by_any_way(widths[:i] + widths[i + 1:], each, differ) < most]
                self.assertEqual(behind(told(each, differ, widths), NEEDED), [[len(needed)] + needed])


class NextToOneAnother(unittest.TestCase):
    def test_each_punnet_in_the_order(self):
        for each, differ, widths in drawn(60, 24):
            ahead = told(each, differ, widths)
            with self.subTest(each=each, differ=differ, widths=widths):
                punnets, over = packing(ahead)
                order = behind(ahead, ORDER)[0][1:]
                for mushrooms in punnets:
                    at = order.index(mushrooms[0])
                    self.assertEqual(order[at:at + each], mushrooms)
                self.assertEqual(sorted(sum(punnets, []) + over), list(range(len(widths))))

    def test_each_punnet_is_one_and_spreads_no_more(self):
        for each, differ, widths in drawn(60, 24):
            ahead = told(each, differ, widths)
            with self.subTest(each=each, differ=differ, widths=widths):
                for p, mushrooms in enumerate(packing(ahead)[0]):
                    within = [widths[i] for i in mushrooms]
                    self.assertEqual(one_number(ahead, ("is_one", mushrooms), ("is_one", mushrooms[::-1])), [1, 1])
                    self.assertEqual(one_number(ahead, ("spread", p)), [max(within) - min(within)])
                    self.assertLessEqual(max(within) - min(within), differ)


class JustSoLittleDifference(unittest.TestCase):
    def test_with_less_fewer_come(self):
        for each, differ, widths in drawn(120, 24):
            ahead = told(each, differ, widths)
            with self.subTest(each=each, differ=differ, widths=widths):
                most = len(widths) // each
                for n, least in enumerate(one_number(ahead, *[("least", n) for n in range(25)])):
                    if n > most:
                        self.assertEqual(least, -33)
                    elif least <= 50:
                        self.assertGreaterEqual(one_number(ahead, ("if_differ", least))[0], n)
                        if least > 0:
                            self.assertLess(one_number(ahead, ("if_differ", least - 1))[0], n)
                    else:
                        self.assertLess(one_number(ahead, ("if_differ", 50))[0], n)

    def test_with_less_fewer_come_by_any_way(self):
        for each, differ, widths in drawn(120, 6):
            ahead = told(each, differ, widths)
            with self.subTest(each=each, differ=differ, widths=widths):
                for n in range(len(widths) // each + 1):
                    least = one_number(ahead, ("least", n))[0]
                    self.assertGreaterEqual(most_by_any_way(widths, each, least), n)
                    if least > 0:
                        self.assertLess(most_by_any_way(widths, each, least - 1), n)

    def test_more_difference_never_brings_fewer(self):
        for each, differ, widths in drawn(150, 24):
            with self.subTest(each=each, differ=differ, widths=widths):
                counts = one_number(told(each, differ, widths), *[("if_differ", d) for d in range(51)])
                self.assertEqual(counts, sorted(counts))

    def test_bigger_punnets_never_bring_more(self):
        for each, differ, widths in drawn(150, 24):
            with self.subTest(each=each, differ=differ, widths=widths):
                counts = one_number(told(each, differ, widths), *[("if_each", k) for k in range(1, 7)])
                self.assertEqual(counts, sorted(counts, reverse=True))

    def test_the_count_as_it_is(self):
        for each, differ, widths in drawn(150, 24):
            with self.subTest(each=each, differ=differ, widths=widths):
                found = one_number(told(each, differ, widths), COUNT, ("if_differ", differ), ("if_each", each))
                self.assertEqual(found, [found[0]] * 3)


class OneMore(unittest.TestCase):
    def test_at_most_one_punnet_more_and_no_fewer(self):
        for each, differ, widths in drawn(100, 24):
            ahead = told(each, differ, widths)
            with self.subTest(each=each, differ=differ, widths=widths):
                count = one_number(ahead, COUNT)[0]
                self.assertLessEqual(set(all_of_more(ahead)), {count, count + 1})

    def test_none_does_more_than_the_best(self):
        for each, differ, widths in drawn(100, 24):
            ahead = told(each, differ, widths)
            with self.subTest(each=each, differ=differ, widths=widths):
                counts = all_of_more(ahead)
                self.assertEqual(behind(ahead, BEST_MORE), [[counts.index(max(counts)) + 1, max(counts)]])

    def test_one_less_brings_at_most_one_punnet_fewer(self):
        for each, differ, widths in drawn(100, 24):
            ahead = told(each, differ, widths)
            with self.subTest(each=each, differ=differ, widths=widths):
                count = one_number(ahead, COUNT)[0]
                needed = behind(ahead, NEEDED)[0][1:]
                for i in range(len(widths)):
                    without = behind(ahead, ("out", i), COUNT)[1][0]
                    self.assertEqual(without, count - 1 if i in needed else count)


class TheOrderTold(unittest.TestCase):
    def test_every_order_of_few(self):
        for widths in permutations((10, 11, 13, 13, 16, 20)):
            self.assertEqual(behind(told(2, 2, widths), COUNT), [[2]])

    def test_drawn_orders(self):
        for each, differ, widths in drawn(80, 24):
            other = list(widths)
            random.Random(len(widths)).shuffle(other)
            with self.subTest(each=each, differ=differ, widths=widths, other=other):
                ahead = told(each, differ, widths)
                again = told(each, differ, other)
                self.assertEqual(asked_of_counts(ahead), asked_of_counts(again))
                self.assertEqual(all_of_more(ahead), all_of_more(again))
                self.assertEqual(behind(ahead, BEST_MORE), behind(again, BEST_MORE))
                self.assertEqual(sorted(widths[i] for i in behind(ahead, NEEDED)[0][1:]),
                                 sorted(other[i] for i in behind(again, NEEDED)[0][1:]))

    def test_all_wider_by_as_much(self):
        for each, differ, widths in drawn(80, 24, widest=60):
            ahead = told(each, differ, widths)
            for more in (1, 7, 100 - max(widths, default=1)):
                wider = told(each, differ, [width + more for width in widths])
                with self.subTest(each=each, differ=differ, widths=widths, more=more):
                    self.assertEqual(asked_of_counts(ahead), asked_of_counts(wider))
                    self.assertEqual(packing(ahead), packing(wider))
                    self.assertEqual(behind(ahead, NEEDED, ORDER), behind(wider, NEEDED, ORDER))


if __name__ == "__main__":
    unittest.main()
