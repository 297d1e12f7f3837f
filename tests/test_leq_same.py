import unittest

from tests.helper import (ZERO, ask_in, chance, first_where, greatest_sum_to_try, leq, most, over, random_level, reckon,
                          same, up, values_in_order, var)

X, Y, Z, W = var(0), var(1), var(2), var(3)


class LeqByHand(unittest.TestCase):
    def leq_is(self, n, first, second, *answer):
        self.assertEqual(ask_in(n, leq(first, second))[0], list(answer), (first, second))

    def test_at_most_for_all_values(self):
        self.leq_is(1, ZERO, ZERO, 1)
        self.leq_is(1, ZERO, X, 1)
        self.leq_is(1, X, X, 1)
        self.leq_is(1, X, up(X), 1)
        self.leq_is(2, X, most(Y, X), 1)
        self.leq_is(2, over(X, Y), most(X, Y), 1)
        self.leq_is(2, Y, over(X, Y), 1)
        self.leq_is(1, over(up(ZERO), X), X, 1)
        self.leq_is(2, X, over(X, up(Y)), 1)
        self.leq_is(3, over(over(X, Y), Z), over(X, over(Y, Z)), 1)
        self.leq_is(1, over(up(ZERO, 3), X), most(up(X, 2), ZERO), 1)

    def test_not_at_most(self):
        self.leq_is(1, X, ZERO, 0, 1)
        self.leq_is(1, up(ZERO), ZERO, 0, 0)
        self.leq_is(1, up(ZERO), X, 0, 0)
        self.leq_is(1, up(X), X, 0, 0)
        self.leq_is(1, X, up(ZERO, 19), 0, 20)
        self.leq_is(1, up(X, 7), up(ZERO, 19), 0, 13)
        self.leq_is(1, over(up(ZERO, 2), X), X, 0, 1)
        self.leq_is(2, X, over(X, Y), 0, 1, 0)
        self.leq_is(2, over(X, Y), Y, 0, 2, 1)
        self.leq_is(2, over(X, Y), X, 0, 0, 1)
        self.leq_is(3, over(X, over(Y, Z)), over(over(X, Y), Z), 0, 2, 0, 1)

    def test_the_least_sum_is_ahead(self):
        self.leq_is(2, most(X, up(Y, 3)), up(ZERO, 5), 0, 0, 3)
        self.leq_is(2, most(up(X, 3), Y), up(ZERO, 5), 0, 3, 0)
        self.leq_is(2, most(X, up(over(Y, X), 9)), up(ZERO, 10), 0, 2, 0)
        self.leq_is(3, most(X, over(over(up(ZERO, 8), Y), Z)), up(ZERO, 3), 0, 0, 1, 1)

    def test_of_one_sum_the_less_at_the_first_that_differs_is_ahead(self):
        self.leq_is(2, most(X, Y), ZERO, 0, 0, 1)
        self.leq_is(4, most(most(X, Y), most(Z, W)), up(ZERO, 2), 0, 0, 0, 0, 3)
        self.leq_is(4, most(X, most(Y, Z)), up(ZERO, 2), 0, 0, 0, 3, 0)
        self.leq_is(3, most(X, over(Y, Z)), up(ZERO, 1), 0, 0, 0, 2)
        self.leq_is(3, most(X, over(over(up(ZERO, 3), Y), Z)), up(ZERO), 0, 0, 0, 2)
        self.leq_is(3, most(up(X, 2), over(over(up(ZERO, 4), Y), Z)), up(ZERO, 3), 0, 0, 1, 1)

    def test_the_second_is_met_by_its_other_variables_too(self):
        self.leq_is(2, over(X, Y), up(Y, 4), 0, 6, 1)
        self.leq_is(2, over(X, Y), most(up(ZERO, 3), over(up(ZERO, 6), Y)), 0, 7, 1)
        self.leq_is(2, over(X, Y), most(Y, over(up(ZERO, 6), Y)), 0, 7, 1)


class SameByHand(unittest.TestCase):
    def same_is(self, n, first, second, *answer):
        self.assertEqual(ask_in(n, same(first, second), same(second, first)), [list(answer)] * 2, (first, second))

    def test_alike_though_written_otherwise(self):
        self.same_is(1, X, X, 1)
        self.same_is(2, most(X, Y), most(Y, X), 1)
        self.same_is(1, over(X, X), X, 1)
        self.same_is(1, over(X, ZERO), ZERO, 1)
        self.same_is(2, over(X, up(Y)), most(X, up(Y)), 1)
        self.same_is(2, up(most(X, Y)), most(up(Y), up(X)), 1)
        self.same_is(3, over(X, over(Y, Z)), most(over(X, Z), over(Y, Z)), 1)
        self.same_is(3, over(X, most(Y, Z)), most(over(X, Y), over(X, Z)), 1)
        self.same_is(2, most(over(X, Y), over(Y, X)), most(X, Y), 1)

    def test_not_alike(self):
        self.same_is(1, X, ZERO, 0, 1)
        self.same_is(1, X, up(X), 0, 0)
        self.same_is(2, X, Y, 0, 0, 1)
        self.same_is(2, over(X, Y), most(X, Y), 0, 1, 0)
        self.same_is(2, over(X, Y), over(Y, X), 0, 0, 1)
        self.same_is(1, most(X, up(ZERO, 18)), up(ZERO, 18), 0, 19)
        self.same_is(4, W, ZERO, 0, 0, 0, 0, 1)

    def test_both_ways_count(self):
        self.same_is(2, most(X, up(ZERO, 2)), most(Y, up(ZERO, 2)), 0, 0, 3)
        self.same_is(2, most(X, up(ZERO, 2)), most(up(Y), up(ZERO, 2)), 0, 0, 2)
        self.same_is(2, most(up(X), up(ZERO, 2)), most(Y, up(ZERO, 2)), 0, 2, 0)


class AgainstPlainSearch(unittest.TestCase):
    def pairs(self, seed, n, deepest, times):
        source = chance(seed)
        for time in range(times):
            first = random_level(source, n, source.randrange(2, deepest + 1), 39)
            second = random_level(source, n, source.randrange(2, deepest + 1), 39)
            yield first, second
            yield first, most(second, first)

    def search(self, n, first, second, ordered):
        above = first_where(ordered, lambda values: reckon(first, values) > reckon(second, values))
        below = first_where(ordered, lambda values: reckon(first, values) < reckon(second, values))
        apart = first_where(ordered, lambda values: reckon(first, values) != reckon(second, values))
        asked = ask_in(n, leq(first, second), leq(second, first), same(first, second), same(second, first))
        self.assertEqual(asked, [above, below, apart, apart], (n, first, second))
        return above, apart

    def hold(self, seed, n, deepest, times):
        ordered = values_in_order(n, greatest_sum_to_try(n, deepest + 1))
        seen = [self.search(n, *pair, ordered) for pair in self.pairs(seed, n, deepest, times)]
        for place in (0, 1):
            self.assertEqual({both[place][0] for both in seen}, {0, 1})

    def test_one_variable(self):
        self.hold(21, 1, 7, 150)

    def test_two_variables(self):
        self.hold(22, 2, 6, 150)

    def test_three_variables(self):
        self.hold(23, 3, 5, 80)

    def test_four_variables(self):
        self.hold(24, 4, 5, 40)

    def test_great_numbers(self):
        source = chance(25)
        for n, times in ((1, 40), (2, 40), (3, 12), (4, 3)):
            ordered = values_in_order(n, greatest_sum_to_try(n, 17))
            for time in range(times):
                first = up(random_level(source, n, 4, 50), source.randrange(4))
                second = most(over(up(ZERO, source.randrange(16)), var(source.randrange(n))),
                              random_level(source, n, 5, 40))
                self.search(n, first, second, ordered)
