import contextlib
import io
import time
import unittest

from levelforms.house import answers

from tests.helper import (LARGEST, ZERO, PlainHouse, ask, begin, bound, chance, clash, first_where, form, hold_form,
                          least, leq, most, over, part_value, parts_of, put, random_level, reckon, ring_bound, same,
                          undo, up, value, values_in_order, var)

X, Y, Z, W = var(0), var(1), var(2), var(3)

WRITTEN_OUT = [
    (form((5,)), [1, -1]),
    (form(up(X)), [7, 2, 0, 0, 1, 1, 1, 1]),
    (begin(2), [1, 0]),
    (leq(X, Y), [3, 0, 1, 0]),
    (leq(X), [1, -1]),
    (begin(0), [1, -1]),
    (same(over(X, Y), over(Y, X)), [3, 0, 0, 1]),
    (same(most(X, Y), most(Y, X)), [1, 1]),
    (value(over(up(X), Y), (6, 1)), [1, 7]),
    (form(ZERO), [1, 0]),
    (form(()), [1, -1]),
    (begin(3), [1, 0]),
    (leq(Z, ZERO), [4, 0, 0, 0, 1]),
    (value(X, (1, 2)), [1, -1]),
    (undo(), [1, -4]),
    (bound(0, up(Y)), [1, 1]),
    (put(over(X, Z), up(Y), X, Z), [7, 2, 4, 3, 0, 6, 2, 1]),
    (bound(1, over(up(Z, 2), Z)), [1, 2]),
    (bound(3, ZERO), [1, -1]),
    (least(), [4, 0, 1, 0, 0]),
    (bound(2, up(ZERO, 4)), [1, 3]),
    (least(), [4, 0, 7, 6, 4]),
    (clash(2, X), [3, 2, 0, 1]),
    (clash(2, up(Y, 2)), [2, 1, 1]),
    (clash(0, up(Z)), [1, -6]),
    (clash(1, up(Y)), [1, 0]),
    (bound(2, Y), [1, -7]),
    (put(X, Y, Z), [1, -1]),
    (undo(), [1, 2]),
    (clash(2, ()), [1, -1]),
    (least(), [4, 0, 1, 0, 0]),
    (begin(1), [1, 0]),
    (least(), [2, 0, 0]),
    (undo(), [1, -4]),
    (same(X, X), [1, 1]),
]


def flat(pieces):
    return [number for piece in pieces for number in piece]


def hard_level(source, length):
    """A bushy level of so many numbers, in four variables; what stands second in over can be 0, mostly."""
    leaves = length // 4
    pieces = [var(source.randrange(4)) for leaf in range(leaves)]
    for time in range(length - (3 * leaves - 1)):
        place = 2 * source.randrange(leaves // 2)
        pieces[place] = up(pieces[place])
    while len(pieces) > 1:
        pairs = zip(pieces[::2], pieces[1::2])
        odd = pieces[len(pieces) // 2 * 2:]
        pieces = [source.choice((most, over, over))(*pair) for pair in pairs] + odd
    return pieces[0]


class Answers(unittest.TestCase):
    def test_several_calls_in_one_list(self):
        given = answers(flat(call for call, answer in WRITTEN_OUT))
        self.assertEqual(given, flat(answer for call, answer in WRITTEN_OUT))

    def test_one_call(self):
        self.assertEqual(answers([0, 4]), [1, 0])
        self.assertEqual(answers([0, LARGEST]), [1, -1])
        self.assertEqual(answers([1, 0]), [1, -1])
        self.assertEqual(answers([1, 1, 0]), [1, 0])
        self.assertEqual(answers([2, 2, 0, 0]), [1, 1])
        self.assertEqual(answers([3, 4, 4, 0, 1, 0]), [2, 0, 0])
        self.assertEqual(answers([4, 2, 0, 9]), [1, 0])
        self.assertEqual(answers([5, 3, 4, 0, 0]), [1, 0])
        self.assertEqual(answers([5, 0]), [1, -1])
        self.assertEqual(answers([6, 0, 1, 0]), [1, 1])
        self.assertEqual(answers([6, LARGEST, 0]), [1, -1])
        self.assertEqual(answers([7]), [2, 0, 0])
        self.assertEqual(answers([8]), [1, -4])
        self.assertEqual(answers([9, 0, 3, 1, 4, 0]), [1, 0])
        self.assertEqual(answers([9, 0, 2, 4, 0]), [1, -6])

    def test_refusals_at_the_beginning_the_middle_and_the_end(self):
        fit = form(up(X))
        fit_answer = [2, 0, 0, 1, 1, 1, 1]
        for misfit in (begin(5), form(), form((1,) * 120), leq(X, X, X), same((4, 1), X), value(X), value(X, (1, 1)),
                       put(X), put(), bound(1, X), bound(0, Y), clash(1, X), clash(0)):
            for place in range(5):
                calls = [fit] * 4
                calls.insert(place, misfit)
                expected = [fit_answer] * 4
                expected.insert(place, [-1])
                self.assertEqual(ask(*calls), expected)
            self.assertEqual(ask(misfit, misfit), [[-1], [-1]])

    def test_all_answers_are_plain_ints_in_a_list(self):
        given = answers(flat(call for call, answer in WRITTEN_OUT))
        self.assertIs(type(given), list)
        self.assertEqual({type(number) for number in given}, {int})

    def test_what_is_handed_in_is_not_changed(self):
        class Watched(list):
            def refuse(self, *told):
                raise AssertionError("calls was changed")
            append = extend = insert = pop = remove = clear = sort = reverse = refuse
            __setitem__ = __delitem__ = __iadd__ = __imul__ = refuse
        calls = flat(call for call, answer in WRITTEN_OUT)
        kept = list(calls)
        answers(calls)
        self.assertEqual(calls, kept)
        watched = Watched(kept)
        self.assertEqual(answers(watched), flat(answer for call, answer in WRITTEN_OUT))
        self.assertEqual(list(watched), kept)

    def test_nothing_is_kept_from_one_time_to_the_next(self):
        calls = flat(call for call, answer in WRITTEN_OUT)
        first = answers(calls)
        self.assertEqual(answers(calls), first)
        answers(begin(4))
        self.assertEqual(answers(calls), first)
        self.assertEqual(ask(form(Y)), [[-1]])
        first.append(5)
        self.assertEqual(answers(calls), first[:-1])

    def test_nothing_is_printed(self):
        out, err = io.StringIO(), io.StringIO()
        with contextlib.redirect_stdout(out), contextlib.redirect_stderr(err):
            answers(flat(call for call, answer in WRITTEN_OUT))
        self.assertEqual((out.getvalue(), err.getvalue()), ("", ""))


class Mixed(unittest.TestCase):
    """All ten calls by chance, many of them refused, held against what the words say call by call."""

    def some_row(self, source, n, count):
        levels = [random_level(source, n, source.randrange(1, 6), 120 // (n + 1)) for time in range(count)]
        if source.random() < 0.1:
            levels[source.randrange(count)] = source.choice(((), (5,), var(n), up(ZERO, 20), (1,), (2, 0)))
            return levels, False
        return levels, True

    def about_bounds(self, source, house):
        draw = source.randrange(7)
        if draw == 0:
            return undo(), house.undo()
        if draw == 1:
            return least(), house.least()
        x = source.randrange(house.n)
        levels, fits = self.some_row(source, house.n, 1)
        if source.random() < 0.1:
            x, fits = house.n + source.randrange(3), False
        call, answer = (clash, house.clash) if draw == 2 else (bound, house.bound)
        return call(x, *levels), answer(x, *levels) if fits else [-1]

    def about_levels(self, source, n):
        sign = source.randrange(1, 6)
        levels, fits = self.some_row(source, n, (1, 2, 2, 1, n + 1)[sign - 1])
        if sign == 4:
            values = tuple(source.randrange(9) for time in range(n))
            return value(*levels, values), [reckon(*levels, values)] if fits else [-1]
        call = (form, leq, same, None, put)[sign - 1](*levels)
        return call, (sign, n, levels) if fits else [-1]

    def calls(self, source):
        house = PlainHouse(1, 100)
        pairs = []
        while len(pairs) < 60:
            draw = source.random()
            if draw < 0.05:
                n = source.randrange(6)
                pairs.append((begin(n), [0] if 1 <= n <= 4 else [-1]))
                house = PlainHouse(n, 100) if 1 <= n <= 4 else house
            else:
                pairs.append(self.about_bounds(source, house) if draw < 0.7 else self.about_levels(source, house.n))
        return self.within_the_interface(pairs)

    def within_the_interface(self, pairs):
        kept, clashes, compared = [], 0, 0
        for call, answer in pairs:
            clashes += call[0] == 9
            compared += call[0] in (2, 3)
            if (call[0] != 9 or clashes <= 6) and (call[0] not in (2, 3) or compared <= 20):
                kept.append((call, answer))
        return kept

    def hold(self, answer, expected):
        if isinstance(expected, list):
            return self.assertEqual(answer, expected)
        sign, n, levels = expected
        grid = [[place // 5 ** i % 5 for i in range(n)] for place in range(5 ** n)]
        grid = [[(0, 1, 2, 5, 99)[place] for place in values] for values in grid]
        if sign in (1, 5):
            level, *put_in = levels
            return hold_form(self, answer, lambda values: reckon(
                level, [reckon(other, values) for other in put_in] or values), grid)
        def holds(values):
            first, second = reckon(levels[0], values), reckon(levels[1], values)
            return first > second if sign == 2 else first != second
        return self.assertEqual(answer, first_where(values_in_order(n, n + 6), holds))

    def test_all_ten_calls_mixed(self):
        source = chance(81)
        seen = set()
        for time in range(40):
            pairs = self.calls(source)
            for answer, (call, expected) in zip(ask(*[call for call, expected in pairs]), pairs, strict=True):
                self.hold(answer, expected)
                seen.add((call[0], min(answer[0], 0)))
        refusals = {(sign, -1) for sign in (0, 1, 2, 3, 4, 5, 6, 9)} | {(6, -5), (6, -7), (8, -4), (9, -6)}
        self.assertEqual(seen, refusals | {(sign, 0) for sign in range(10)})


class Hard(unittest.TestCase):
    def setUp(self):
        source = chance(41)
        levels = [hard_level(source, 60) for time in range(10)]
        self.pairs = [(levels[i % 10], levels[(3 * i + i // 10) % 10]) for i in range(20)]
        self.formed = [hard_level(source, 120) for time in range(20)]
        self.valued = [(hard_level(source, 116), (i, 1, i % 3, LARGEST - i)) for i in range(19)]

    def ask_all(self):
        calls = [begin(4)]
        calls += [(leq if i % 2 else same)(*pair) for i, pair in enumerate(self.pairs)]
        calls += [form(level) for level in self.formed]
        calls += [value(*both) for both in self.valued]
        self.assertEqual([len(call) for call in calls], [2] + [122] * 59)
        began = time.perf_counter()
        asked = ask(*calls)
        self.assertLess(time.perf_counter() - began, 5)
        self.assertEqual(len(asked), 60)
        return asked

    def test_sixty_calls_with_rows_of_120_numbers(self):
        asked = self.ask_all()
        ordered = values_in_order(4, 12)
        for i, pair in enumerate(self.pairs):
            def holds(values):
                first, second = reckon(pair[0], values), reckon(pair[1], values)
                return first > second if i % 2 else first != second
            self.assertEqual(asked[1 + i], first_where(ordered, holds))
        self.assertEqual({answer[0] for answer in asked[1:21]}, {0, 1})
        for level, answer in zip(self.formed, asked[21:41]):
            for values in ordered[::7]:
                heights = [part_value(part, values) for part in parts_of(answer)]
                self.assertEqual(max(heights, default=0), reckon(level, values))
        self.assertEqual(asked[41:], [[reckon(*both)] for both in self.valued])


class HardBounds(unittest.TestCase):
    """Nine bounds of which it takes seven to clash, all told at length; what's told besides is 0 for all values."""

    def setUp(self):
        self.source = chance(42)
        ring = [ring_bound(i) for i in (3, 2, 1)]
        above = [(i, up(ZERO, i + 1)) for i in (3, 2, 1, 0)]
        idle = [(1, over(X, ZERO)), (0, over(over(up(ZERO, 4), Z), X))]
        self.bounds = idle[:1] + ring + idle[1:] + above
        self.further = [ring_bound(0, 1), ring_bound(0, 2), ring_bound(0, 9), (0, over(over(up(Y), Z), X)),
                        (0, over(up(most(Y, ZERO)), X)), (0, over(up(ZERO, 12), X))]

    def at_length(self, bound_told):
        x, level = bound_told
        nothing = over(hard_level(self.source, 120 - 3 - len(level)), ZERO)
        return x, most(level, nothing)

    def test_six_clashes_over_nine_bounds_in_sixty_calls(self):
        source = self.source
        calls = [begin(4)] + [bound(*self.at_length(one)) for one in self.bounds]
        calls += [clash(*self.at_length(one)) for one in self.further]
        calls += [(leq if i % 2 else same)(hard_level(source, 60), hard_level(source, 60)) for i in range(20)]
        calls += [put(*[hard_level(source, 24) for place in range(5)]) for i in range(10)]
        calls += [form(hard_level(source, 120)) for i in range(6)]
        calls += [value(hard_level(source, 116), (i, 1, 0, LARGEST)) for i in range(6)]
        calls += [bound(*self.at_length(self.further[0])), least()]
        self.assertEqual((len(calls), sum(len(call) for call in calls)), (60, 2 + 16 * 123 + 42 * 122 + 1))
        began = time.perf_counter()
        asked = ask(*calls)
        self.assertLess(time.perf_counter() - began, 5)
        house = PlainHouse(4, 60)
        self.assertEqual(asked[1:10], [house.bound(*one) for one in self.bounds])
        self.assertEqual(asked[10:16], [house.clash(*one) for one in self.further])
        self.assertEqual([answer[0] for answer in asked[10:16]], [7, 7, 7, 7, 7, -6])
        self.assertTrue(all(answer[0] >= 0 for answer in asked[16:58]))
        self.assertEqual(asked[58:], [[-5], house.least()])
