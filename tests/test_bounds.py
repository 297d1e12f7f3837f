"""The calls bound, least and undo."""

import itertools
import unittest

from tests.helper import (LARGEST, ZERO, PlainHouse, ask, ask_in, begin, bound, chance, clash, form, least, meets, most,
                          over, random_level, undo, up, var)

X, Y, Z, W = var(0), var(1), var(2), var(3)

NINE = [bound(0, up(ZERO, i)) for i in range(9)]


class Bound(unittest.TestCase):
    def test_how_many_there_are_then(self):
        self.assertEqual(ask(bound(0, X)), [[1]])
        self.assertEqual(ask(*NINE), [[count] for count in range(1, 10)])
        self.assertEqual(ask_in(4, *[bound(i % 4, up(ZERO)) for i in range(9)]), [[count] for count in range(1, 10)])

    def test_the_same_bound_counts_each_time(self):
        self.assertEqual(ask_in(2, *[bound(1, X)] * 9), [[count] for count in range(1, 10)])

    def test_a_variable_that_is_not_there(self):
        for n in range(1, 5):
            for x in (n, n + 1, 7, LARGEST):
                for level in (ZERO, X, up(X), (), (5,), var(n), up(ZERO, 20)):
                    asked = ask_in(n, bound(x, level), bound(n - 1, up(ZERO)), least())
                    self.assertEqual(asked, [[-1], [1], [0] * n + [1]], (n, x, level))
        self.assertEqual(ask(bound(1, ZERO)), [[-1]])

    def test_what_is_no_level(self):
        for level in ((), (1,), (5,), (LARGEST,), (4,), (4, 2), (2, 0), (0, 0), X + Y, up(ZERO, 20), (1,) * 120):
            asked = ask_in(2, bound(0, up(ZERO)), bound(1, level), least(), bound(1, up(X)), least())
            self.assertEqual(asked, [[1], [-1], [0, 1, 0], [2], [0, 1, 2]], level)

    def test_a_tenth(self):
        asked = ask(*NINE, bound(0, ZERO), least(), undo(), bound(0, up(ZERO, 12)), bound(0, ZERO), least())
        self.assertEqual(asked[9:], [[-5], [0, 8], [8], [9], [-5], [0, 12]])

    def test_of_several_refusals_the_one_told_first(self):
        asked = ask(*NINE, bound(0, up(X)), bound(1, ZERO), bound(0, ()), bound(0, (5,)), bound(1, up(Y)), least())
        self.assertEqual(asked[9:], [[-5], [-1], [-1], [-1], [-1], [0, 8]])
        self.assertEqual(ask(bound(1, up(X)), bound(0, up(X)), bound(0, up(Y))), [[-1], [-7], [-1]])


class NoValuesMeetAll(unittest.TestCase):
    def no_values(self, n, *bounds):
        """The last of them can't be met with the others; all is as it was then."""
        *made, refused = bounds
        counts = [[count] for count in range(1, len(made) + 1)]
        asked = ask_in(n, *[bound(*one) for one in made], least(), bound(*refused), least(), bound(0, ZERO), least())
        before = PlainHouse(n)
        before.bounds = made
        values = before.least()
        self.assertEqual(asked, counts + [values, [-7], values, [len(made) + 1], values], bounds)

    def test_by_one_bound_alone(self):
        for n in range(1, 5):
            for x in range(n):
                self.no_values(n, (x, up(var(x))))
                self.no_values(n, (x, up(var(x), 19)))
                self.no_values(n, (x, most(ZERO, up(var(x)))))
                self.no_values(n, (x, over(up(var(x)), up(ZERO))))
                self.no_values(n, (x, up(over(var(x), var(x)))))

    def test_a_variable_of_at_least_itself_is_no_fault(self):
        self.assertEqual(ask(bound(0, X), bound(0, over(up(X), X)), least()), [[1], [2], [0, 0]])
        self.assertEqual(ask(bound(0, over(up(ZERO, 5), X)), bound(0, up(ZERO)), least()), [[1], [2], [0, 5]])

    def test_a_loop_that_is_cut_while_a_variable_is_zero(self):
        self.no_values(1, (0, over(up(X), X)), (0, up(ZERO)))
        self.no_values(2, (0, over(up(X), Y)), (1, up(ZERO)))
        self.no_values(2, (0, over(up(X), Y)), (1, X), (0, up(ZERO)))
        self.no_values(2, (1, up(ZERO)), (0, over(up(X), Y)))
        self.no_values(3, (0, over(over(up(X), Y), Z)), (2, up(ZERO)), (1, up(ZERO)))

    def test_by_a_ring_of_which_no_one_is_at_fault_alone(self):
        rings = [
            (2, (0, up(Y)), (1, X)),
            (2, (0, Y), (1, up(X))),
            (2, (1, up(X)), (0, over(Y, Y))),
            (3, (0, Y), (1, Z), (2, up(X))),
            (3, (2, Y), (0, up(Z)), (1, X)),
            (4, (0, Y), (1, Z), (2, W), (3, up(X))),
            (4, (3, X), (2, W), (1, Z), (0, up(Y, 19))),
            (4, (0, most(Y, ZERO)), (2, up(X)), (3, Z), (1, over(up(ZERO, 3), W))),
            (4, (1, up(ZERO)), (0, over(up(W), Y)), (2, over(X, X)), (3, Z)),
        ]
        for n, *ring in rings:
            self.no_values(n, *ring)
            for aside in range(len(ring)):
                others = [bound(*one) for one in ring[:aside] + ring[aside + 1:]]
                self.assertEqual(ask_in(n, *others)[-1], [len(others)], ring)

    def test_rings_each_lifted_far_ahead_of_the_fault(self):
        self.no_values(4, (0, up(ZERO, 19)), (1, up(X, 19)), (2, up(Y, 19)), (3, up(Z, 19)), (0, X), (0, W))

    def test_least_need_not_reach_the_loop(self):
        """Some values that meet all are enough, though others would lift for ever."""
        asked = ask_in(3, bound(0, over(up(X), Y)), bound(1, over(up(Y, 3), Z)), bound(0, up(ZERO, 7)), least())
        self.assertEqual(asked, [[1], [2], [3], [0, 7, 0, 0]])


class Least(unittest.TestCase):
    def least_is(self, n, bounds, *values):
        for order in itertools.permutations(bounds) if len(bounds) < 5 else (bounds, bounds[::-1]):
            asked = ask_in(n, *[bound(*one) for one in order], least(), least())
            self.assertEqual(asked[len(bounds):], [[0, *values]] * 2, order)

    def test_no_bounds(self):
        self.assertEqual(ask(least()), [[0, 0]])
        for n in range(1, 5):
            self.least_is(n, [], *[0] * n)

    def test_one_bound(self):
        self.least_is(1, [(0, ZERO)], 0)
        self.least_is(1, [(0, up(ZERO, 19))], 19)
        self.least_is(2, [(0, up(Y, 4))], 4, 0)
        self.least_is(4, [(3, most(up(X), up(Y, 2)))], 0, 0, 0, 2)
        self.least_is(2, [(0, over(up(ZERO, 4), Y))], 0, 0)

    def test_chains(self):
        self.least_is(3, [(0, up(ZERO, 2)), (1, up(X)), (2, up(Y, 3))], 2, 3, 6)
        self.least_is(4, [(3, up(ZERO)), (2, up(W)), (1, up(Z)), (0, up(Y))], 4, 3, 2, 1)
        self.least_is(3, [(2, most(up(X), up(Y, 2))), (0, up(ZERO, 5)), (1, up(ZERO, 3))], 5, 3, 6)

    def test_rings_that_can_be_met(self):
        self.least_is(2, [(0, Y), (1, X)], 0, 0)
        self.least_is(2, [(0, Y), (1, X), (1, up(ZERO, 4))], 4, 4)
        self.least_is(4, [(0, Y), (1, Z), (2, W), (3, most(X, up(ZERO, 6)))], 6, 6, 6, 6)
        self.least_is(3, [(0, over(up(ZERO, 3), Y)), (1, over(up(ZERO, 2), Z)), (2, X), (1, over(Y, X))], 0, 0, 0)
        self.least_is(3, [(0, over(up(ZERO, 3), Y)), (1, over(up(ZERO, 2), Z)), (2, X), (2, up(ZERO))], 3, 3, 3)

    def test_a_value_that_stays_zero_keeps_another_level_zero(self):
        self.least_is(2, [(0, over(up(ZERO, 9), Y))], 0, 0)
        self.least_is(3, [(0, over(up(ZERO, 9), Y)), (1, over(up(X, 2), Z))], 0, 0, 0)
        self.least_is(3, [(0, over(up(ZERO, 9), Y)), (2, up(ZERO, 3)), (2, over(up(Y), X))], 0, 0, 3)
        self.least_is(3, [(0, over(up(ZERO, 9), Y)), (2, up(ZERO, 3)), (1, over(X, Z))], 9, 9, 3)
        self.least_is(2, [(0, up(over(up(ZERO, 9), Y)))], 1, 0)

    def test_each_variable_that_rises_above_zero_changes_the_levels(self):
        bounds = [(1, over(up(ZERO, 2), X)), (2, over(over(up(ZERO, 5), X), Y)), (3, over(over(up(Y, 7), X), Z))]
        self.least_is(4, bounds, 0, 0, 0, 0)
        self.least_is(4, bounds + [(0, up(ZERO))], 1, 2, 5, 9)

    def test_large_numbers(self):
        self.least_is(4, [(0, up(ZERO, 19)), (1, up(X, 19)), (2, up(Y, 19)), (3, up(Z, 19))], 19, 38, 57, 76)
        self.least_is(4, [(3, up(Z, 19)), (2, up(Y, 19)), (1, up(X, 19)), (0, up(ZERO, 19)), (2, X)],
                      19, 38, 57, 76)
        self.least_is(4, [(0, over(Y, W)), (1, over(up(Z, 17), W)), (2, over(up(W, 18), W)), (3, up(ZERO, 19))],
                      54, 54, 37, 19)

    def test_least_changes_nothing(self):
        asked = ask_in(2, bound(0, up(ZERO)), least(), least(), bound(1, X), least(), least(), undo(), least())
        self.assertEqual(asked, [[1], [0, 1, 0], [0, 1, 0], [2], [0, 1, 1], [0, 1, 1], [1], [0, 1, 0]])

    def test_after_begin_there_are_no_bounds(self):
        for n in range(1, 5):
            for later in range(1, 5):
                asked = ask_in(n, bound(0, up(ZERO, 5)), bound(n - 1, up(ZERO, 3)), begin(later), least(), undo(),
                               bound(0, ZERO))
                self.assertEqual(asked[2:], [[0], [0] * (later + 1), [-4], [1]])
        asked = ask(bound(0, up(ZERO, 5)), begin(1), least(), *NINE, begin(1), *NINE, least())
        self.assertEqual(asked[1:3] + asked[12:14] + asked[-1:], [[0], [0, 0], [0], [1], [0, 8]])

    def test_after_a_refused_begin_all_bounds_are_there(self):
        asked = ask_in(2, bound(0, up(ZERO, 5)), begin(0), begin(5), least(), bound(1, X), least())
        self.assertEqual(asked, [[1], [-1], [-1], [0, 5, 0], [2], [0, 5, 5]])


class Undo(unittest.TestCase):
    def test_none_there(self):
        self.assertEqual(ask(undo(), undo(), bound(0, ZERO), undo(), undo()), [[-4], [-4], [1], [0], [-4]])
        self.assertEqual(ask_in(3, undo(), least()), [[-4], [0, 0, 0, 0]])

    def test_the_last_one_is_gone(self):
        made = [bound(0, up(ZERO, 2)), bound(1, up(X)), bound(2, up(Y, 3)), bound(0, up(ZERO, 4))]
        asked = ask_in(3, *made, least(), undo(), least(), undo(), least(), undo(), least(), undo(), least(), undo())
        self.assertEqual(asked[4:], [[0, 4, 5, 8], [3], [0, 2, 3, 6], [2], [0, 2, 3, 0], [1], [0, 2, 0, 0],
                                     [0], [0, 0, 0, 0], [-4]])

    def test_what_was_refused_may_be_met_then(self):
        asked = ask_in(2, bound(0, up(Y)), bound(1, X), undo(), bound(1, X), undo(), undo(), bound(0, up(X)), undo())
        self.assertEqual(asked, [[1], [-7], [0], [1], [0], [-4], [-7], [-4]])

    def test_after_a_refused_bound(self):
        for refused in (bound(0, up(X)), bound(2, ZERO), bound(0, (5,)), bound(1, up(Y, 2))):
            asked = ask_in(2, bound(0, up(ZERO, 3)), bound(1, up(X)), refused, undo(), least(), refused, undo(),
                           least())
            self.assertEqual(asked[3:5] + asked[6:], [[1], [0, 3, 0], [0], [0, 0, 0]])
        asked = ask(*NINE, bound(0, ZERO), undo(), least(), undo(), least())
        self.assertEqual(asked[9:], [[-5], [8], [0, 7], [7], [0, 6]])


class AgainstPlainSearch(unittest.TestCase):
    def hold(self, seed, n, deepest, times, highest):
        """Small levels: bounds that can be met are met by values up to highest, if by any."""
        source = chance(seed)
        box = list(itertools.product(range(highest + 1), repeat=n))
        seen = {-7: 0, 0: 0}
        for time in range(times):
            made = []
            left = box
            for one in range(source.randrange(1, 10)):
                further = (source.randrange(n), random_level(source, n, source.randrange(1, deepest + 1), 40))
                asked = ask_in(n, *[bound(*told) for told in made + [further]], least())
                meeting = [values for values in left if meets(values, [further])]
                if not meeting:
                    self.assertEqual(asked[-2], [-7], made + [further])
                    seen[-7] += 1
                else:
                    made, left = made + [further], meeting
                    self.assertEqual(asked[-2], [len(made)], made)
                    seen[0] += max(asked[-1]) > 0
                self.assertEqual(asked[-1], [0] + [min(column) for column in zip(*left)], made)
                self.assertIn(tuple(asked[-1][1:]), left)
        self.assertGreater(min(seen.values()), times // 3)

    def test_one_variable(self):
        self.hold(61, 1, 6, 60, 20)

    def test_two_variables(self):
        self.hold(62, 2, 5, 60, 12)

    def test_three_variables(self):
        self.hold(63, 3, 4, 40, 9)

    def test_four_variables(self):
        self.hold(64, 4, 3, 12, 8)


class AgainstPlainLifting(unittest.TestCase):
    def some_call(self, source, n, house):
        draw = source.random()
        if draw < 0.15:
            return undo(), house.undo()
        if draw < 0.3:
            return least(), house.least()
        x, level = source.randrange(n), random_level(source, n, source.randrange(1, 7), 40)
        if draw < 0.7:
            level = over(level, var(source.randrange(n)))
        if source.random() < 0.3:
            level = up(level, source.randrange(12))
        return bound(x, level), house.bound(x, level)

    def test_mixed_calls(self):
        source = chance(65)
        seen = set()
        for n in (1, 2, 3, 4):
            for time in range(60):
                house = PlainHouse(n)
                pairs = [self.some_call(source, n, house) for call in range(58)]
                pairs.append((least(), house.least()))
                self.assertEqual(ask_in(n, *[call for call, answer in pairs]), [answer for call, answer in pairs])
                seen |= {(call[0], answer[0]) for call, answer in pairs}
        self.assertLessEqual({(6, -5), (6, -7), (6, 1), (6, 9), (7, 0), (8, -4), (8, 0), (8, 8)}, seen)

    def test_other_calls_leave_the_bounds_alone(self):
        asked = ask_in(2, bound(1, up(X, 2)), bound(0, up(ZERO)), form(X), clash(0, Y), clash(0, up(X)), least(),
                       undo())
        self.assertEqual(asked[2:], [[1, 1, 1, 0], [1, 0], [0], [0, 1, 3], [1]])
