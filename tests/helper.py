"""Calls by their names, laid into one list, and the answers taken apart again."""

from mushpunnets.punnets import answers

NAMES = (
    "begin", "cap", "out", "width", "each", "differ", "back", "count", "punnet", "which", "left",
    "is_one", "spread", "if_differ", "if_each", "least", "more", "best_more", "needed", "order", "state",
)

BACK = ("back",)
COUNT = ("count",)
LEFT = ("left",)
BEST_MORE = ("best_more",)
NEEDED = ("needed",)
ORDER = ("order",)
STATE = ("state",)

BIGGEST = 4294967295


def laid(calls):
    """The one list for these calls; a list among a call's numbers is a row."""
    numbers = []
    for call in calls:
        numbers.append(NAMES.index(call[0]))
        for given in call[1:]:
            if isinstance(given, list):
                numbers.append(len(given))
                numbers.extend(given)
            else:
                numbers.append(given)
    return numbers


def taken_apart(told):
    """One list for each call, with what it answered."""
    apart = []
    at = 0
    while at < len(told):
        end = at + 1 + told[at]
        if told[at] < 1 or end > len(told):
            raise AssertionError(f"no such number of numbers at {at}: {told}")
        apart.append(told[at + 1:end])
        at = end
    return apart


def ask(*calls):
    """What each of the calls, on one new object, answers."""
    if not 1 <= len(calls) <= 100:
        raise AssertionError(f"{len(calls)} calls are not handed in")
    numbers = laid(calls)
    before = list(numbers)
    told = answers(numbers)
    if numbers != before:
        raise AssertionError("the list handed in was changed")
    if type(told) is not list or any(type(number) is not int for number in told):
        raise AssertionError(f"not a list of whole numbers: {told!r}")
    apart = taken_apart(told)
    if len(apart) != len(calls):
        raise AssertionError(f"{len(calls)} calls, {len(apart)} answers: {told}")
    return apart


def told(each, differ, widths):
    """The calls that begin such punnets and tell mushrooms so wide."""
    return [("begin", each, differ)] + [("cap", width) for width in widths]


def behind(ahead, *calls):
    """What the calls answer, behind those ahead of them."""
    return ask(*ahead, *calls)[len(ahead):]


def packing(ahead):
    """The punnets, and those left over, as count, punnet, left and which tell them in accord."""
    found = behind(ahead, COUNT, LEFT)
    count = found[0][0]
    over = found[1][1:]
    if len(over) != found[1][0]:
        raise AssertionError(f"left tells another number than it has: {found[1]}")
    punnets = []
    for answer in behind(ahead, *[("punnet", p) for p in range(count)], ("punnet", count))[:-1]:
        if len(answer) != 1 + answer[0]:
            raise AssertionError(f"punnet tells another number than it has: {answer}")
        punnets.append(answer[1:])
    for p, mushrooms in enumerate(punnets + [over]):
        expected = p if p < count else -33
        for i in mushrooms:
            if behind(ahead, ("which", i)) != [[expected]]:
                raise AssertionError(f"which {i} is not {expected}")
    return punnets, over
