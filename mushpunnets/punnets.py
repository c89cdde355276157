"""What the calls on one object answer: mushrooms told, changed and packed into punnets."""

MOST_MUSHROOMS = 24
MOST_WIDE = 100
MOST_EACH = 6
MOST_DIFFER = 50
MOST_DIFFER_ASKED = 100
MOST_TAKEN_BACK = 10

NO_MUSHROOM = -2
NOTHING_TO_TAKE_BACK = -2
THAT_ALREADY = -17
NOT_AS_TOLD = -22
NO_ROOM = -28
NO_PUNNET = -33
NO_DIFFERENCE = -33
NOT_BEGUN = -61

BEGIN = 0
IS_ONE = 11

# How many whole numbers stand behind each call's own; is_one has a row instead, which tells its length itself.
NUMBERS_BEHIND = (2, 1, 1, 2, 1, 1, 0, 0, 1, 1, 0, 0, 1, 1, 1, 1, 1, 0, 0, 0, 0)


class Shed:
    """The mushrooms that are told, what punnets are to be like, and what can be taken back."""

    def __init__(self):
        self.begun = False
        self.each = 0
        self.differ = 0
        self.widths = []
        self.earlier = []

    def set_up(self, each, differ):
        self.begun = True
        self.each = each
        self.differ = differ
        self.widths = []
        self.earlier = []

    def change(self, each, differ, widths):
        # The list of widths is always a new one, so what is kept of the old needs no copy.
        kept = self.earlier + [(self.each, self.differ, self.widths)]
        self.earlier = kept[-MOST_TAKEN_BACK:]
        self.each = each
        self.differ = differ
        self.widths = widths

    def take_back(self):
        before = self.earlier[-1]
        self.earlier = self.earlier[:-1]
        self.each = before[0]
        self.differ = before[1]
        self.widths = before[2]


def is_width(width):
    return 1 <= width <= MOST_WIDE


def is_each(each):
    return 1 <= each <= MOST_EACH


def is_differ(differ):
    return 0 <= differ <= MOST_DIFFER


def is_mushroom(shed, i):
    return 0 <= i < len(shed.widths)


def in_row(widths):
    """The mushrooms' numbers, the narrowest first, of like ones the one told first."""
    return sorted(range(len(widths)), key=lambda i: (widths[i], i))


def spread_of(widths, mushrooms):
    """By how much the widest of these mushrooms is wider than the narrowest; there is one at least."""
    chosen = [widths[i] for i in mushrooms]
    return max(chosen) - min(chosen)


def packed(widths, each, differ):
    """The punnets as they come, each the mushrooms in it as they stand in the row."""
    row = in_row(widths)
    punnets = []
    first = 0
    while first + each <= len(row):
        mushrooms = row[first:first + each]
        if spread_of(widths, mushrooms) <= differ:
            punnets.append(mushrooms)
            first = first + each
        else:
            first = first + 1
    return punnets


def packed_in(shed):
    return packed(shed.widths, shed.each, shed.differ)


def how_many(widths, each, differ):
    return len(packed(widths, each, differ))


def how_many_with(shed, width):
    """How many punnets would come with one mushroom more, so wide."""
    return how_many(shed.widths + [width], shed.each, shed.differ)


def how_many_without(shed, i):
    return how_many(shed.widths[:i] + shed.widths[i + 1:], shed.each, shed.differ)


def punnet_with(punnets, i):
    """In which punnet mushroom i is, None if it is left over."""
    for p, mushrooms in enumerate(punnets):
        if i in mushrooms:
            return p
    return None


def call_begin(shed, given):
    each = given[0]
    differ = given[1]
    if not is_each(each) or not is_differ(differ):
        return [NOT_AS_TOLD]
    shed.set_up(each, differ)
    return [0]


def call_cap(shed, given):
    width = given[0]
    if not is_width(width):
        return [NOT_AS_TOLD]
    if len(shed.widths) >= MOST_MUSHROOMS:
        return [NO_ROOM]
    number = len(shed.widths)
    shed.change(shed.each, shed.differ, shed.widths + [width])
    return [number]


def call_out(shed, given):
    i = given[0]
    if not is_mushroom(shed, i):
        return [NO_MUSHROOM]
    shed.change(shed.each, shed.differ, shed.widths[:i] + shed.widths[i + 1:])
    return [len(shed.widths)]


def call_width(shed, given):
    i = given[0]
    width = given[1]
    if not is_mushroom(shed, i):
        return [NO_MUSHROOM]
    if not is_width(width):
        return [NOT_AS_TOLD]
    was = shed.widths[i]
    shed.change(shed.each, shed.differ, shed.widths[:i] + [width] + shed.widths[i + 1:])
    return [was]


def call_each(shed, given):
    each = given[0]
    was = shed.each
    if not is_each(each):
        return [NOT_AS_TOLD]
    if each == was:
        return [THAT_ALREADY]
    shed.change(each, shed.differ, shed.widths)
    return [was]


def call_differ(shed, given):
    differ = given[0]
    was = shed.differ
    if not is_differ(differ):
        return [NOT_AS_TOLD]
    if differ == was:
        return [THAT_ALREADY]
    shed.change(shed.each, differ, shed.widths)
    return [was]


def call_back(shed, given):
    if len(shed.earlier) == 0:
        return [NOTHING_TO_TAKE_BACK]
    shed.take_back()
    return [len(shed.earlier)]


def call_count(shed, given):
    return [len(packed_in(shed))]


def call_punnet(shed, given):
    p = given[0]
    punnets = packed_in(shed)
    if p >= len(punnets):
        return [NO_PUNNET]
    return [len(punnets[p])] + punnets[p]


def call_which(shed, given):
    i = given[0]
    if not is_mushroom(shed, i):
        return [NO_MUSHROOM]
    p = punnet_with(packed_in(shed), i)
    if p is None:
        return [NO_PUNNET]
    return [p]


def call_left(shed, given):
    punnets = packed_in(shed)
    over = [i for i in range(len(shed.widths)) if punnet_with(punnets, i) is None]
    return [len(over)] + over


def call_is_one(shed, given):
    # The row's length stands first; end_of_call has made use of it already.
    mushrooms = given[1:]
    for i in mushrooms:
        if not is_mushroom(shed, i):
            return [NOT_AS_TOLD]
    if len(mushrooms) != shed.each or len(set(mushrooms)) != len(mushrooms):
        return [0]
    if spread_of(shed.widths, mushrooms) > shed.differ:
        return [0]
    return [1]


def call_spread(shed, given):
    p = given[0]
    punnets = packed_in(shed)
    if p >= len(punnets):
        return [NO_PUNNET]
    return [spread_of(shed.widths, punnets[p])]


def call_if_differ(shed, given):
    differ = given[0]
    if not is_differ(differ):
        return [NOT_AS_TOLD]
    return [how_many(shed.widths, shed.each, differ)]


def call_if_each(shed, given):
    each = given[0]
    if not is_each(each):
        return [NOT_AS_TOLD]
    return [how_many(shed.widths, each, shed.differ)]


def call_least(shed, given):
    wanted = given[0]
    if wanted > MOST_MUSHROOMS:
        return [NOT_AS_TOLD]
    for differ in range(MOST_DIFFER_ASKED + 1):
        if how_many(shed.widths, shed.each, differ) >= wanted:
            return [differ]
    return [NO_DIFFERENCE]


def call_more(shed, given):
    width = given[0]
    if not is_width(width):
        return [NOT_AS_TOLD]
    return [how_many_with(shed, width)]


def call_best_more(shed, given):
    best = 1
    most = how_many_with(shed, best)
    for width in range(2, MOST_WIDE + 1):
        come = how_many_with(shed, width)
        if come > most:
            best = width
            most = come
    return [best, most]


def call_needed(shed, given):
    come = len(packed_in(shed))
    needed = [i for i in range(len(shed.widths)) if how_many_without(shed, i) < come]
    return [len(needed)] + needed


def call_order(shed, given):
    return [len(shed.widths)] + in_row(shed.widths)


def call_state(shed, given):
    return [shed.each, shed.differ, len(shed.widths), len(shed.earlier)]


# In the order of the calls' numbers.
CALLS = (
    call_begin,
    call_cap,
    call_out,
    call_width,
    call_each,
    call_differ,
    call_back,
    call_count,
    call_punnet,
    call_which,
    call_left,
    call_is_one,
    call_spread,
    call_if_differ,
    call_if_each,
    call_least,
    call_more,
    call_best_more,
    call_needed,
    call_order,
    call_state,
)


def end_of_call(calls, start):
    """Where the call that begins at start is over."""
    call = calls[start]
    if call == IS_ONE:
        return start + 2 + calls[start + 1]
    return start + 1 + NUMBERS_BEHIND[call]


def answer(shed, call, given):
    if call != BEGIN and not shed.begun:
        return [NOT_BEGUN]
    return CALLS[call](shed, given)


def answers(calls):
    """For each call in the list, on one new object: how many numbers are answered, then these."""
    shed = Shed()
    told = []
    start = 0
    while start < len(calls):
        end = end_of_call(calls, start)
        numbers = answer(shed, calls[start], calls[start + 1:end])
        told.append(len(numbers))
        told.extend(numbers)
        start = end
    return told
