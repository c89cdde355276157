"""Many lists of calls, against a slow and plain telling of the document's words."""

import random
import unittest

from helper import BIGGEST, ask


class Model:
    """Keeps the changes alone, and tells them all anew for each question."""

    def __init__(self):
        self.first = None
        self.changes = []
        self.can = 0

    def now(self):
        each, differ = self.first
        widths = []
        for name, *given in self.changes:
            if name == "cap":
                widths.append(given[0])
            elif name == "out":
                widths.pop(given[0])
            elif name == "width":
                widths[given[0]] = given[1]
            elif name == "each":
                each = given[0]
            else:
                differ = given[0]
        return each, differ, widths

    def packed(self):
        each, differ, widths = self.now()
        row = sorted((width, i) for i, width in enumerate(widths))
        punnets = []
        over = []
        while row:
            some = row[:each]
            if len(some) == each and some[-1][0] - some[0][0] <= differ:
                punnets.append([i for width, i in some])
                row = row[each:]
            else:
                over.append(row.pop(0)[1])
        return punnets, sorted(over)

    def refusal(self, name, given):
        each, differ, widths = self.now()
        punnets, over = self.packed()
        due = []
        if name in ("out", "width", "which") and given[0] >= len(widths):
            due.append(-2)
        if name == "back" and self.can == 0:
            due.append(-2)
        if name in ("cap", "width") and not 1 <= given[-1] <= 100:
            due.append(-22)
        if name == "each" and not 1 <= given[0] <= 6 or name == "differ" and given[0] > 50:
            due.append(-22)
        if name == "each" and given[0] == each or name == "differ" and given[0] == differ:
            due.append(-17)
        if name == "cap" and len(widths) == 24:
            due.append(-28)
        if name == "punnet" and given[0] >= len(punnets) or name == "which" and given[0] in over:
            due.append(-33)
        return due[:1]

    def begin(self, each, differ):
        if not 1 <= each <= 6 or differ > 50:
            return [-22]
        self.first = (each, differ)
        self.changes = []
        self.can = 0
        return [0]

    def change(self, call):
        each, differ, widths = self.now()
        self.changes.append(call)
        self.can = min(10, self.can + 1)
        name = call[0]
        if name == "cap":
            return [len(widths)]
        if name == "out":
            return [len(widths) - 1]
        if name == "width":
            return [widths[call[1]]]
        return [each] if name == "each" else [differ]

    def back(self):
        self.changes.pop()
        self.can -= 1
        return [self.can]

    def question(self, name, given):
        punnets, over = self.packed()
        if name == "count":
            return [len(punnets)]
        if name == "left":
            return [len(over)] + over
        if name == "punnet":
            return [len(punnets[given[0]])] + punnets[given[0]]
        return [p for p, mushrooms in enumerate(punnets) if given[0] in mushrooms]

    def answer(self, call):
        name, *given = call
        if name == "begin":
            return self.begin(*given)
        if self.first is None:
            return [-61]
        refused = self.refusal(name, given)
        if refused:
            return refused
        if name in ("cap", "out", "width", "each", "differ"):
            return self.change(call)
        return self.back() if name == "back" else self.question(name, given)


def some_number(chance, low, high):
    """Mostly from low to high, now and then just beside it or far off."""
    if chance.random() < 0.06:
        return chance.choice((0, max(0, low - 1), high + 1, 51, 101, BIGGEST))
    return chance.randint(low, high)


def some_call(chance, widest, most):
    name = chance.choices(("begin", "cap", "out", "width", "each", "differ", "back", "count", "punnet", "which", "left"),
                          (1, 40, 6, 10, 5, 5, 12, 10, 12, 12, 10))[0]
    if name == "begin":
        return (name, some_number(chance, 1, 6), some_number(chance, 0, 50))
    if name == "cap":
        return (name, some_number(chance, 1, widest))
    if name == "width":
        return (name, some_number(chance, 0, most), some_number(chance, 1, widest))
    if name == "each":
        return (name, some_number(chance, 1, 6))
    if name == "differ":
        return (name, some_number(chance, 0, min(50, widest // 3)))
    if name in ("out", "which"):
        return (name, some_number(chance, 0, most))
    if name == "punnet":
        return (name, some_number(chance, 0, 5))
    return (name,)


class AgainstTheModel(unittest.TestCase):
    def test_many_lists(self):
        for seed in range(400):
            chance = random.Random(seed)
            widest = chance.choice((3, 12, 40, 100))
            most = chance.choice((3, 10, 23))
            calls = [some_call(chance, widest, most) for k in range(chance.randint(0, 3))]
            calls.append(("begin", chance.randint(1, 4), chance.randint(0, widest // 3)))
            calls += [some_call(chance, widest, most) for k in range(95)]
            model = Model()
            with self.subTest(seed=seed):
                self.assertEqual(ask(*calls), [model.answer(call) for call in calls])


if __name__ == "__main__":
    unittest.main()
