import itertools
import unittest

from tests.helper import LARGEST, ZERO, ask_in, chance, most, over, random_level, reckon, up, value, var

X, Y, Z, W = var(0), var(1), var(2), var(3)


class Value(unittest.TestCase):
    def value_is(self, level, values, expected):
        self.assertEqual(ask_in(len(values), value(level, values)), [[expected]], (level, values))

    def test_each_kind_of_level(self):
        self.value_is(ZERO, (5,), 0)
        self.value_is(X, (5,), 5)
        self.value_is(X, (0,), 0)
        self.value_is(Y, (5, 8), 8)
        self.value_is(W, (1, 2, 3, 4), 4)
        self.value_is(up(X), (5,), 6)
        self.value_is(up(ZERO, 19), (5,), 19)
        self.value_is(most(X, Y), (5, 8), 8)
        self.value_is(most(X, Y), (8, 5), 8)
        self.value_is(over(X, Y), (5, 8), 8)
        self.value_is(over(X, Y), (8, 5), 8)

    def test_over_with_a_second_part_of_zero(self):
        self.value_is(over(X, Y), (8, 0), 0)
        self.value_is(over(X, Y), (0, 8), 8)
        self.value_is(over(X, ZERO), (8,), 0)
        self.value_is(over(up(X), over(Y, ZERO)), (8, 9), 0)
        self.value_is(up(over(X, Y)), (8, 0), 1)
        self.value_is(over(X, up(Y)), (8, 0), 8)
        self.value_is(over(X, over(Y, Z)), (7, 8, 0), 0)
        self.value_is(over(over(X, Y), Z), (7, 0, 2), 2)

    def test_values_up_to_the_largest(self):
        self.value_is(X, (LARGEST,), LARGEST)
        self.value_is(up(X), (LARGEST,), LARGEST + 1)
        self.value_is(up(X, 19), (LARGEST,), LARGEST + 19)
        self.value_is(most(up(X), Y), (LARGEST - 1, LARGEST), LARGEST)
        self.value_is(over(up(X, 2), Y), (LARGEST, 1), LARGEST + 2)
        self.value_is(over(X, Y), (LARGEST, 0), 0)

    def test_just_n_values(self):
        for n in range(1, 5):
            for count in range(7):
                expected = [3] if count == n else [-1]
                self.assertEqual(ask_in(n, value(up(X, 3), (0,) * count)), [expected], (n, count))

    def test_values_are_not_read_as_levels(self):
        self.value_is(X, (4, 0), 4)
        self.value_is(up(Y), (2, 1), 2)
        self.value_is(ZERO, (4, 9, 9, 9), 0)
        self.assertEqual(ask_in(2, value(X, Y, Y)), [[-1]])

    def test_against_the_words(self):
        source = chance(31)
        for n in (1, 2, 3, 4):
            grid = list(itertools.product((0, 1, 2, 5, LARGEST), repeat=n))
            for time in range(60):
                level = random_level(source, n, source.randrange(1, 7))
                chosen = [source.choice(grid) for values in range(50)]
                asked = ask_in(n, *[value(level, values) for values in chosen])
                self.assertEqual(asked, [[reckon(level, values)] for values in chosen], level)
