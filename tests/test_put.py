import itertools
import unittest

from tests.helper import (LARGEST, ZERO, ask, ask_in, bound, chance, form, hold_form, least, most, over, put,
                          random_level, reckon, up, var, written_out)

X, Y, Z, W = var(0), var(1), var(2), var(3)


class PutByHand(unittest.TestCase):
    def comes_to(self, n, level, levels, *parts):
        answer = ask_in(n, put(level, *levels))[0]
        self.assertEqual(answer, [len(parts)] + [number for part in parts for number in part], (level, levels))

    def test_one_variable(self):
        self.comes_to(1, X, [X], (1, 1, 0))
        self.comes_to(1, X, [ZERO])
        self.comes_to(1, ZERO, [up(X, 3)])
        self.comes_to(1, up(X), [up(X, 2)], (0, 0, 3), (1, 1, 3))
        self.comes_to(1, over(up(ZERO, 5), X), [ZERO])
        self.comes_to(1, over(up(ZERO, 5), X), [up(ZERO)], (0, 0, 5))
        self.assertEqual(ask(put(up(X), up(X))), [[2, 0, 0, 2, 1, 1, 2]])

    def test_several_variables(self):
        self.comes_to(2, Y, [up(X), X], (1, 1, 0))
        self.comes_to(2, over(X, Y), [up(Y, 2), X], (1, 0, 2), (1, 1, 0), (3, 2, 2))
        self.comes_to(3, most(X, Z), [up(Y), up(X, 9), over(X, Y)], (0, 0, 1), (2, 2, 1), (3, 1, 0))
        self.comes_to(4, most(most(X, Y), most(Z, W)), [W, up(Z), up(ZERO, 4), X],
                      (0, 0, 4), (1, 1, 0), (4, 3, 1), (8, 4, 0))

    def test_all_are_put_in_at_once(self):
        self.comes_to(2, X, [Y, X], (2, 2, 0))
        self.comes_to(2, Y, [Y, X], (1, 1, 0))
        self.comes_to(2, over(up(X, 2), Y), [Y, X], (1, 0, 2), (1, 1, 0), (3, 2, 2))
        self.comes_to(3, over(over(up(X, 3), Y), Z), [Y, Z, X], (1, 1, 0), (5, 0, 3), (5, 3, 0), (7, 2, 3))
        self.comes_to(4, up(over(X, W)), [W, X, Y, Z], (0, 0, 1), (4, 3, 1), (12, 4, 1))

    def test_a_variable_that_is_zero_by_what_is_put_in(self):
        self.comes_to(2, over(X, Y), [X, over(X, ZERO)])
        self.comes_to(2, over(X, Y), [X, over(up(ZERO, 3), Y)], (2, 0, 3), (2, 2, 0), (3, 1, 0))
        self.comes_to(2, over(X, Y), [X, up(ZERO)], (0, 0, 1), (1, 1, 0))


class Misfits(unittest.TestCase):
    def refused(self, n, *told):
        self.assertEqual(ask_in(n, put(*told)), [[-1]], told)

    def test_just_one_level_more_than_variables(self):
        for n in range(1, 5):
            for leaf in (ZERO, X, up(X), over(X, X)):
                for count in range(8):
                    answer = ask_in(n, put(*[leaf] * count))[0]
                    self.assertEqual(answer == [-1], count != n + 1, (n, count))
                self.refused(n, *[leaf] * (n + 1), (LARGEST,))
                self.refused(n, *[leaf] * n, (1,))

    def test_nothing_told(self):
        for n in range(1, 5):
            self.refused(n)
        self.assertEqual(ask(put()), [[-1]])

    def test_a_misfit_in_each_place(self):
        for misfit in ((4, 2), (4, LARGEST), (5,), (LARGEST,), (1, 4, 2), (3, 0, 5), up(ZERO, 20), up(X, 20)):
            for place in range(3):
                told = [X, Y, ZERO]
                told[place] = misfit
                self.refused(2, *told)

    def test_a_variable_that_is_not_there_though_what_is_put_in_is_not_needed(self):
        self.refused(1, Y, X)
        self.refused(1, ZERO, Y)
        self.refused(2, X, X, Z)
        self.refused(3, W, X, Y, Z)

    def test_all_is_as_it_was(self):
        asked = ask_in(2, bound(0, up(ZERO, 3)), put(X, Y), put(X, Y, X), least(), bound(1, up(X)), least())
        self.assertEqual(asked, [[1], [-1], [1, 2, 2, 0], [0, 3, 0], [2], [0, 3, 4]])


class Deep(unittest.TestCase):
    def test_each_twenty_deep(self):
        self.assertEqual(ask_in(1, put(up(X, 19), up(X, 19))), [[2, 0, 0, 38, 1, 1, 38]])
        self.assertEqual(ask_in(1, put(up(X, 19), up(ZERO, 19))), [[1, 0, 0, 38]])
        self.assertEqual(ask_in(2, put(up(Y, 19), up(ZERO, 19), up(X, 19))), [[2, 0, 0, 38, 1, 1, 38]])
        self.assertEqual(ask_in(4, put(up(W, 19), *[up(leaf, 19) for leaf in (X, Y, Z, W)])),
                         [[2, 0, 0, 38, 8, 4, 38]])

    def test_one_deeper_is_refused_in_each_place(self):
        self.assertEqual(ask_in(1, put(up(X, 20), X), put(X, up(X, 20)), put(ZERO, up(X, 20))), [[-1]] * 3)

    def test_joins_twenty_deep_in_joins_twenty_deep(self):
        told = []
        for join, leaf, other in itertools.product((most, over), (X, Y), (X, Y)):
            level = leaf
            for step in range(19):
                level = up(level) if step % 3 == 1 else join(level, other)
            told.append(level)
        self.assertEqual(ask_in(2, *[form(up(level)) for level in told]), [[-1]] * 8)
        grid = list(itertools.product((0, 1, 2, 30, 99), repeat=2))
        for level, put_in in itertools.product(told, repeat=2):
            hold_form(self, ask_in(2, put(level, put_in, Y))[0],
                      lambda values: reckon(level, [reckon(put_in, values), values[1]]), grid)


class AgainstTheWords(unittest.TestCase):
    def told(self, seed, times, deepest):
        source = chance(seed)
        for n in (1, 2, 3, 4):
            for time in range(times):
                longest = 120 // (n + 1)
                yield n, [random_level(source, n, source.randrange(1, deepest), longest) for place in range(n + 1)]

    def test_as_form_of_the_level_written_out(self):
        compared = 0
        for n, (level, *levels) in self.told(51, 120, 7):
            out = written_out(level, levels)
            if len(out) <= 120:
                asked = ask_in(n, put(level, *levels), form(out))
                self.assertEqual(asked[0], asked[1], (level, levels))
                compared += 1
        self.assertGreater(compared, 300)

    def test_the_form_of_what_it_comes_to(self):
        for n, (level, *levels) in self.told(52, 60, 8):
            grid = list(itertools.product((0, 1, 2, 9, 99) if n < 4 else (0, 1, 99), repeat=n))
            hold_form(self, ask_in(n, put(level, *levels))[0],
                      lambda values: reckon(level, [reckon(other, values) for other in levels]), grid)

    def test_each_variable_in_its_own_place_is_form(self):
        source = chance(53)
        for n in (1, 2, 3, 4):
            for time in range(40):
                level = random_level(source, n, 6, 100)
                asked = ask_in(n, put(level, *[var(i) for i in range(n)]), form(level))
                self.assertEqual(asked[0], asked[1], level)
