"""What the tests hold the program against: levels reckoned straight from the words, and plain searches.

Nothing here uses the package but `ask`, so that no fault of it can hide in its own tests.
"""

import itertools
import random

from levelforms.house import answers

LARGEST = 4294967295

ZERO = (0,)


def up(level, times=1):
    return (1,) * times + level


def most(first, second):
    return (2,) + first + second


def over(first, second):
    return (3,) + first + second


def var(number):
    return (4, number)


def begin(n):
    return [0, n]


def row_call(sign, *told):
    row = [number for piece in told for number in piece]
    assert len(row) <= 120
    return [sign, len(row)] + row


def form(*told):
    return row_call(1, *told)


def leq(*told):
    return row_call(2, *told)


def same(*told):
    return row_call(3, *told)


def value(*told):
    return row_call(4, *told)


def put(*told):
    return row_call(5, *told)


def bound(x, *told):
    return [6, x] + row_call(6, *told)[1:]


def least():
    return [7]


def undo():
    return [8]


def clash(x, *told):
    return [9, x] + row_call(9, *told)[1:]


def split_answers(given):
    split = []
    place = 0
    while place < len(given):
        split.append(given[place + 1:place + 1 + given[place]])
        assert len(split[-1]) == given[place] > 0
        place += 1 + given[place]
    return split


def ask(*calls):
    """The answer of each call, all of them on one house."""
    signs = [call[0] for call in calls]
    assert len(calls) <= 60 and signs.count(9) <= 6 and signs.count(2) + signs.count(3) <= 20
    return split_answers(answers([number for call in calls for number in call]))


def ask_in(n, *calls):
    """The same, with n variables."""
    split = ask(begin(n), *calls)
    assert split[0] == [0]
    return split[1:]


def reckon(level, values):
    """A level's value, word by word."""
    def walk(place):
        sign = level[place]
        if sign == 0:
            return 0, place + 1
        if sign == 4:
            return values[level[place + 1]], place + 2
        first, place = walk(place + 1)
        if sign == 1:
            return first + 1, place
        second, place = walk(place)
        if sign == 3 and second == 0:
            return 0, place
        return max(first, second), place
    reckoned, end = walk(0)
    assert end == len(level)
    return reckoned


def written_out(level, levels):
    """The level with the others in place of its variables, number by number."""
    def walk(place):
        if level[place] == 4:
            return levels[level[place + 1]], place + 2
        out, end = level[place:place + 1], place + 1
        for part in range((0, 1, 2, 2)[level[place]]):
            piece, end = walk(end)
            out += piece
        return out, end
    out, end = walk(0)
    assert end == len(level)
    return out


def ring_bound(i, more=0):
    """Of four variables in a ring: i is at least the next and so much more, but only where i is above 0 itself."""
    return i, over(up(var((i + 1) % 4), more), var(i))


def meets(values, bounds):
    return all(values[x] >= reckon(level, values) for x, level in bounds)


def lifted_values(n, bounds, limit=200):
    """Values that are lifted bound by bound until they meet all; None if one passes the limit.

    Where bounds can be met at all, no value need pass 19 for each variable: a number, then a way through the others.
    """
    values = [0] * n
    while not meets(values, bounds):
        for x, level in bounds:
            values[x] = max(values[x], reckon(level, values))
        if max(values) > limit:
            return None
    return values


class PlainHouse:
    """What is answered of calls about bounds whose levels and variables are there, by plain trial of all choices."""

    def __init__(self, n=1, limit=200):
        self.n, self.limit, self.bounds = n, limit, []

    def meet(self, bounds):
        return lifted_values(self.n, bounds, self.limit)

    def bound(self, x, level):
        if len(self.bounds) == 9:
            return [-5]
        if self.meet(self.bounds + [(x, level)]) is None:
            return [-7]
        self.bounds.append((x, level))
        return [len(self.bounds)]

    def least(self):
        return [0] + self.meet(self.bounds)

    def undo(self):
        if not self.bounds:
            return [-4]
        self.bounds.pop()
        return [len(self.bounds)]

    def clash(self, x, level):
        if self.meet(self.bounds + [(x, level)]) is not None:
            return [-6]
        for size in range(len(self.bounds) + 1):
            for choice in itertools.combinations(range(len(self.bounds)), size):
                if self.meet([self.bounds[i] for i in choice] + [(x, level)]) is None:
                    return [size, *choice]


def part_value(part, values):
    members, variable, number = part
    for i, here in enumerate(values):
        if members >> i & 1 and here == 0:
            return 0
    return number + (values[variable - 1] if variable else 0)


def parts_of(answer):
    assert len(answer) == 1 + 3 * answer[0], answer
    return [tuple(answer[place:place + 3]) for place in range(1, len(answer), 3)]


def hold_form(case, answer, value_for, grid):
    """The parts stand in order, the greatest is the value throughout the grid, and none of them can be left out.

    So that each part is alone the greatest somewhere, the grid has 0, 1 and one number above all others there are.
    """
    parts = parts_of(answer)
    places = [part[:2] for part in parts]
    case.assertEqual(places, sorted(set(places)))
    needed = set()
    for values in grid:
        heights = [part_value(part, values) for part in parts]
        reached = max(heights, default=0)
        case.assertEqual(reached, value_for(values), values)
        if reached > 0 and heights.count(reached) == 1:
            needed.add(parts[heights.index(reached)])
    case.assertEqual(needed, set(parts))


def values_of_sum(n, total):
    if n == 1:
        return [[total]]
    return [[head] + tail for head in range(total + 1) for tail in values_of_sum(n - 1, total - head)]


def values_in_order(n, greatest_sum):
    return [values for total in range(greatest_sum + 1) for values in values_of_sum(n, total)]


def greatest_sum_to_try(n, deepest):
    """No level so deep holds a number above deepest - 1, so one variable at deepest + 1 tells all apart."""
    return n - 1 + deepest + 1


def first_where(ordered, holds):
    for values in ordered:
        if holds(values):
            return [0] + values
    return [1]


def chance(seed):
    return random.Random(seed)


def grown_level(source, n, deepest):
    if deepest == 1 or source.random() < 0.1:
        return var(source.randrange(n)) if source.random() < 0.85 else ZERO
    sign = source.choice((1, 1, 2, 3, 3))
    if sign == 1:
        return up(grown_level(source, n, deepest - 1))
    join = most if sign == 2 else over
    return join(grown_level(source, n, deepest - 1), grown_level(source, n, deepest - 1))


def random_level(source, n, deepest, longest=116):
    """A level that fits into a row, behind which there's room for four values, or so long as is told."""
    while True:
        level = grown_level(source, n, deepest)
        if len(level) <= longest:
            return level
