import unittest

from tests.helper import (LARGEST, ZERO, PlainHouse, ask, ask_in, bound, chance, clash, least, most, over, random_level,
                          ring_bound, undo, up, var)

X, Y, Z, W = var(0), var(1), var(2), var(3)


class ClashByHand(unittest.TestCase):
    def clash_is(self, n, bounds, further, *answer):
        asked = ask_in(n, *[bound(*one) for one in bounds], clash(*further), bound(*further))
        refused = [len(bounds) + 1] if answer == (-6,) else [-7]
        counts = [[count] for count in range(1, len(bounds) + 1)]
        self.assertEqual(asked, counts + [list(answer), [-5] if len(bounds) == 9 else refused], (bounds, further))

    def test_no_bound_needed(self):
        self.clash_is(1, [], (0, up(X)), 0)
        self.clash_is(1, [(0, X)], (0, up(X)), 0)
        self.clash_is(2, [(0, up(ZERO)), (1, X)], (1, up(most(X, Y))), 0)
        self.clash_is(4, [(0, Y), (1, Z), (2, W)], (3, most(up(X), up(W))), 0)
        self.assertEqual(ask(clash(0, up(X))), [[0]])

    def test_one(self):
        self.clash_is(2, [(0, Y)], (1, up(X)), 1, 0)
        self.clash_is(2, [(0, ZERO), (0, up(ZERO)), (0, Y)], (1, up(X)), 1, 2)
        self.clash_is(1, [(0, ZERO), (0, up(ZERO))], (0, over(up(X), X)), 1, 1)
        self.clash_is(2, [(0, up(ZERO)), (1, up(ZERO))], (0, over(up(X), Y)), 1, 1)

    def test_two(self):
        self.clash_is(3, [(0, Y), (1, Z)], (2, up(X)), 2, 0, 1)
        self.clash_is(3, [(0, Y), (0, up(ZERO)), (1, Z)], (2, up(X)), 2, 0, 2)
        self.clash_is(2, [(0, over(up(X), Y)), (1, X)], (0, up(ZERO)), 2, 0, 1)

    def test_three_and_more(self):
        self.clash_is(4, [(0, Y), (1, Z), (2, W)], (3, up(X)), 3, 0, 1, 2)
        self.clash_is(4, [(2, W), (3, ZERO), (0, Y), (3, up(ZERO)), (1, Z)], (3, up(X)), 3, 0, 2, 4)
        chained = [(1, X), (2, Y), (3, Z), (0, over(over(up(X), Z), W))]
        self.clash_is(4, chained, (0, up(ZERO)), 4, 0, 1, 2, 3)

    def test_seven(self):
        """No variable is above 0 but by a bound of its own, and the ring turns only where all are above 0."""
        above = [(i, up(ZERO)) for i in range(4)]
        ring = [ring_bound(i) for i in (1, 2, 3)]
        idle = [(1, ZERO), (3, over(up(ZERO), W))]
        self.clash_is(4, above + ring, ring_bound(0, 1), 7, 0, 1, 2, 3, 4, 5, 6)
        self.clash_is(4, ring + above, ring_bound(0, 1), 7, 0, 1, 2, 3, 4, 5, 6)
        self.clash_is(4, idle + ring + above, ring_bound(0, 1), 7, 2, 3, 4, 5, 6, 7, 8)
        self.clash_is(4, ring + idle[:1] + above + idle[1:], ring_bound(0, 18), 7, 0, 1, 2, 4, 5, 6, 7)
        self.clash_is(4, [ring_bound(0, 1)] + ring + above[1:], above[0], 7, 0, 1, 2, 3, 4, 5, 6)

    def test_the_fewest_and_not_only_some(self):
        self.clash_is(3, [(0, Y), (1, Z), (0, Z)], (2, up(X)), 1, 2)
        self.clash_is(4, [(0, Y), (1, Z), (2, W), (0, Z)], (3, up(X)), 2, 2, 3)
        self.clash_is(4, [(0, Y), (1, Z), (2, W), (0, W)], (3, up(X)), 1, 3)
        self.clash_is(3, [(0, Y), (1, Z), (2, X)], (2, up(X)), 2, 0, 1)
        self.clash_is(4, [(1, X), (2, Y), (3, Z), (3, up(X))], (0, over(up(X), W)), 1, 3)

    def test_of_several_the_lower_number_where_they_first_differ(self):
        self.clash_is(2, [(0, Y), (0, Y)], (1, up(X)), 1, 0)
        self.clash_is(2, [(0, ZERO), (0, Y), (0, up(Y, 3)), (0, Y)], (1, up(X)), 1, 1)
        self.clash_is(3, [(1, Z), (0, Y), (1, Z), (0, Y)], (2, up(X)), 2, 0, 1)
        self.clash_is(3, [(0, Y), (0, Y), (1, Z), (1, up(Z))], (2, up(X)), 2, 0, 2)
        self.clash_is(4, [(0, Y), (2, W), (0, Z), (1, W)], (3, up(X)), 2, 0, 3)
        self.clash_is(4, [(0, Z), (0, Y), (1, W), (2, W)], (3, up(X)), 2, 0, 3)

    def test_values_that_meet_all(self):
        self.clash_is(1, [], (0, X), -6)
        self.clash_is(1, [(0, up(ZERO, 3))], (0, up(ZERO, 9)), -6)
        self.clash_is(3, [(0, Y), (1, Z)], (2, X), -6)
        self.clash_is(2, [(0, over(up(X), Y))], (0, up(ZERO)), -6)
        self.clash_is(4, [(i % 4, up(ZERO, i)) for i in range(9)], (0, up(ZERO, 19)), -6)

    def test_with_nine_bounds(self):
        nine = [(0, up(ZERO, i)) for i in range(6)] + [(1, Z), (0, Y), (2, W)]
        self.clash_is(4, nine, (3, up(X)), 3, 6, 7, 8)
        self.clash_is(4, nine, (2, up(Y)), 1, 6)
        self.clash_is(4, nine, (0, over(up(X), X)), 1, 1)


class Numbers(unittest.TestCase):
    def test_after_undo_and_further_bounds(self):
        asked = ask_in(3, bound(0, Y), bound(1, X), bound(2, ZERO), clash(1, up(X)), undo(), undo(), bound(1, Z),
                       clash(1, up(X)), clash(2, up(Y)), undo(), bound(2, X), clash(2, up(Y)), clash(0, up(Z)))
        self.assertEqual(asked[3:], [[1, 0], [2], [1], [2], [1, 0], [1, 1], [1], [2], [-6], [1, 1]])

    def test_refused_bounds_have_no_number(self):
        asked = ask_in(2, bound(0, up(X)), bound(5, X), bound(0, ZERO), bound(0, ()), bound(1, up(Y)), bound(1, X),
                       clash(0, up(Y)))
        self.assertEqual(asked, [[-7], [-1], [1], [-1], [-7], [2], [1, 1]])

    def test_after_all_are_undone(self):
        self.assertEqual(ask_in(2, bound(0, Y), undo(), clash(1, up(X)), clash(1, up(Y))), [[1], [0], [-6], [0]])


class Refusals(unittest.TestCase):
    def test_a_variable_that_is_not_there(self):
        for n in range(1, 5):
            for x in (n, n + 1, LARGEST):
                for level in (ZERO, up(X), (), (5,), var(n)):
                    self.assertEqual(ask_in(n, clash(x, level)), [[-1]], (n, x, level))
        self.assertEqual(ask(clash(1, ZERO)), [[-1]])

    def test_what_is_no_level(self):
        for level in ((), (1,), (5,), (LARGEST,), (4,), (4, 2), (2, 0), (0, 0), X + Y, up(ZERO, 20), (3,) * 120):
            asked = ask_in(2, clash(0, level), bound(0, up(ZERO, 3)), clash(1, level), least(), undo())
            self.assertEqual(asked, [[-1], [1], [-1], [0, 3, 0], [0]], level)

    def test_all_is_as_it_was(self):
        for told, answer in (((0, ZERO), [-6]), ((0, up(X)), [0]), ((0, up(Y)), [1, 1]), ((1, up(ZERO, 19)), [-6]),
                             ((2, ZERO), [-1]), ((0, (5,)), [-1])):
            asked = ask_in(2, bound(0, up(ZERO)), bound(1, X), clash(*told), least(), clash(*told), bound(1, up(X)),
                           least(), undo(), undo(), least(), undo(), undo())
            self.assertEqual(asked[2:], [answer, [0, 1, 1], answer, [3], [0, 1, 2], [2], [1], [0, 1, 0], [0], [-4]])


class AgainstPlainTrial(unittest.TestCase):
    def some_bound(self, source, n):
        """Much of it such that a variable that's 0 stays so by it: then it takes many bounds to clash."""
        x, y, z = [source.randrange(n) for time in range(3)]
        draw = source.random()
        if draw < 0.25:
            return x, up(ZERO)
        if draw < 0.4:
            return x, var(y)
        if draw < 0.8:
            return x, over(up(var(y), source.choice((0, 0, 0, 1))), var(x))
        if draw < 0.9:
            return x, over(over(up(var(y), source.randrange(2)), var(z)), var(x))
        return x, random_level(source, n, 4, 30)

    def test_small_houses(self):
        source = chance(71)
        seen = set()
        for n, times in ((1, 20), (2, 40), (3, 60), (4, 160)):
            for time in range(times):
                house = PlainHouse(n, 20)
                told = [self.some_bound(source, n) for call in range(12)]
                pairs = [(bound(*one), house.bound(*one)) for one in told]
                told = [self.some_bound(source, n) for call in range(6)]
                pairs += [(clash(*one), house.clash(*one)) for one in told]
                pairs.append((least(), house.least()))
                self.assertEqual(ask_in(n, *[call for call, answer in pairs]), [answer for call, answer in pairs])
                seen |= {answer[0] for call, answer in pairs if call[0] == 9}
        self.assertLessEqual({-6, 0, 1, 2, 3, 4, 5}, seen)
