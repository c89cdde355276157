"""Many lists of calls, against a slow and plain telling of the document's words."""

import random
import unittest

from helper import BIGGEST, NAMES, ask


def packed_so(each, differ, widths):
    """The punnets, and those left over."""
    row = sorted((width, i) for i, width in enumerate(widths))
    punnets = []
    over = []
    while row:
        some = row[:each]
        if len(some) == each and some[-1][0] - some[0][0] <= differ:
            punnets.append([i for width, i in some])
            row = row[each:]
        else:
            over.append(row.pop(0)[1])
    return punnets, sorted(over)


def come(each, differ, widths):
    return len(packed_so(each, differ, widths)[0])


class Model:
    """Keeps the changes alone, and tells them all anew for each question."""

    def __init__(self):
        self.first = None
        self.changes = []
        self.can = 0

    def now(self):
        each, differ = self.first
        widths = []
        for name, *given in self.changes:
            if name == "cap":
                widths.append(given[0])
            elif name == "out":
                widths.pop(given[0])
            elif name == "width":
                widths[given[0]] = given[1]
            elif name == "each":
                each = given[0]
            else:
                differ = given[0]
        return each, differ, widths

    def packed(self):
        return packed_so(*self.now())

    def refusal(self, name, given):
        each, differ, widths = self.now()
        punnets, over = self.packed()
        due = []
        if name in ("out", "width", "which") and given[0] >= len(widths):
            due.append(-2)
        if name == "back" and self.can == 0:
            due.append(-2)
        if name in ("cap", "width", "more") and not 1 <= given[-1] <= 100:
            due.append(-22)
        if name in ("each", "if_each") and not 1 <= given[0] <= 6:
            due.append(-22)
        if name in ("differ", "if_differ") and given[0] > 50 or name == "least" and given[0] > 24:
            due.append(-22)
        if name == "is_one" and any(i >= len(widths) for i in given[0]):
            due.append(-22)
        if name == "each" and given[0] == each or name == "differ" and given[0] == differ:
            due.append(-17)
        if name == "cap" and len(widths) == 24:
            due.append(-28)
        if name in ("punnet", "spread") and given[0] >= len(punnets) or name == "which" and given[0] in over:
            due.append(-33)
        if name == "least" and given[0] > len(widths) // each:
            due.append(-33)
        return due[:1]

    def begin(self, each, differ):
        if not 1 <= each <= 6 or differ > 50:
            return [-22]
        self.first = (each, differ)
        self.changes = []
        self.can = 0
        return [0]

    def change(self, call):
        each, differ, widths = self.now()
        self.changes.append(call)
        self.can = min(10, self.can + 1)
        name = call[0]
        if name == "cap":
            return [len(widths)]
        if name == "out":
            return [len(widths) - 1]
        if name == "width":
            return [widths[call[1]]]
        return [each] if name == "each" else [differ]

    def back(self):
        self.changes.pop()
        self.can -= 1
        return [self.can]

    def question(self, name, given):
        punnets, over = self.packed()
        if name == "count":
            return [len(punnets)]
        if name == "left":
            return [len(over)] + over
        if name == "punnet":
            return [len(punnets[given[0]])] + punnets[given[0]]
        if name == "which":
            return [p for p, mushrooms in enumerate(punnets) if given[0] in mushrooms]
        if name == "spread":
            widths = sorted(self.now()[2][i] for i in punnets[given[0]])
            return [widths[-1] - widths[0]]
        if name in ("is_one", "order", "state"):
            return self.of_the_mushrooms(name, given)
        return self.would(name, given)

    def of_the_mushrooms(self, name, given):
        each, differ, widths = self.now()
        if name == "state":
            return [each, differ, len(widths), self.can]
        if name == "order":
            return [len(widths)] + [i for width in range(1, 101) for i, one in enumerate(widths) if one == width]
        if len(given[0]) != each or sorted(given[0]) != sorted(set(given[0])):
            return [0]
        return [int(all(abs(widths[i] - widths[j]) <= differ for i in given[0] for j in given[0]))]

    def would(self, name, given):
        each, differ, widths = self.now()
        if name == "if_differ":
            return [come(each, given[0], widths)]
        if name == "if_each":
            return [come(given[0], differ, widths)]
        if name == "least":
            return [min(d for d in range(101) if come(each, d, widths) >= given[0])]
        if name == "more":
            return [come(each, differ, widths + given)]
        if name == "best_more":
            count, width = max((come(each, differ, [width] + widths), -width) for width in range(1, 101))
            return [-width, count]
        count = come(each, differ, widths)
        needed = [i for i in range(len(widths)) if come(each, differ, widths[:i] + widths[i + 1:]) != count]
        return [len(needed)] + needed

    def answer(self, call):
        name, *given = call
        if name == "begin":
            return self.begin(*given)
        if self.first is None:
            return [-61]
        refused = self.refusal(name, given)
        if refused:
            return refused
        if name in ("cap", "out", "width", "each", "differ"):
            return self.change(call)
        return self.back() if name == "back" else self.question(name, given)


def some_number(chance, low, high):
    """Mostly from low to high, now and then just beside it or far off."""
    if chance.random() < 0.06:
        return chance.choice((0, max(0, low - 1), high + 1, 24, 25, 51, 101, BIGGEST))
    return chance.randint(low, high)


def some_row(chance, most):
    """Often so many as a punnet may have and none twice, else anything."""
    if chance.random() < 0.7:
        return chance.sample(range(most + 1), min(most + 1, chance.randint(1, 4)))
    return [some_number(chance, 0, most) for k in range(chance.choice((0, 1, 2, 3, 4, 6, 29, 30)))]


def some_call(chance, widest, most):
    name = chance.choices(NAMES, (1, 50, 6, 10, 5, 5, 12, 6, 7, 7, 6, 14, 6, 6, 6, 7, 6, 3, 5, 5, 6))[0]
    if name == "begin":
        return (name, some_number(chance, 1, 6), some_number(chance, 0, 50))
    if name in ("cap", "more"):
        return (name, some_number(chance, 1, widest))
    if name == "width":
        return (name, some_number(chance, 0, most), some_number(chance, 1, widest))
    if name in ("each", "if_each"):
        return (name, some_number(chance, 1, 6))
    if name in ("differ", "if_differ"):
        return (name, some_number(chance, 0, min(50, widest // 3)))
    if name in ("out", "which"):
        return (name, some_number(chance, 0, most))
    if name in ("punnet", "spread", "least"):
        return (name, some_number(chance, 0, 5))
    if name == "is_one":
        return (name, some_row(chance, most))
    return (name,)


class AgainstTheModel(unittest.TestCase):
    def test_many_lists(self):
        for seed in range(400):
            chance = random.Random(seed)
            widest = chance.choice((3, 12, 40, 100))
            most = chance.choice((3, 10, 23))
            calls = [some_call(chance, widest, most) for k in range(chance.randint(0, 3))]
            calls.append(("begin", chance.randint(1, 4), chance.randint(0, widest // 3)))
            calls += [some_call(chance, widest, most) for k in range(95)]
            model = Model()
            with self.subTest(seed=seed):
                self.assertEqual(ask(*calls), [model.answer(call) for call in calls])


if __name__ == "__main__":
    unittest.main()
