import itertools
import unittest

from tests.helper import (ZERO, ask_in, chance, form, hold_form, most, over, part_value, parts_of, random_level, reckon,
                          up, var)

X, Y, Z, W = var(0), var(1), var(2), var(3)


class FormByHand(unittest.TestCase):
    def has_form(self, n, level, *parts):
        answer = ask_in(n, form(level))[0]
        self.assertEqual(answer, [len(parts)] + [number for part in parts for number in part], level)

    def test_zero_has_no_part(self):
        for n in range(1, 5):
            self.has_form(n, ZERO)
        self.has_form(1, most(ZERO, ZERO))
        self.has_form(1, over(ZERO, ZERO))
        self.has_form(1, over(X, ZERO))
        self.has_form(2, over(up(X, 3), over(up(Y), ZERO)))

    def test_variable(self):
        self.has_form(1, X, (1, 1, 0))
        for i in range(4):
            self.has_form(4, var(i), (2 ** i, i + 1, 0))

    def test_one_more(self):
        self.has_form(1, up(ZERO), (0, 0, 1))
        self.has_form(1, up(ZERO, 19), (0, 0, 19))
        self.has_form(1, up(X), (0, 0, 1), (1, 1, 1))
        self.has_form(3, up(Z, 19), (0, 0, 19), (4, 3, 19))

    def test_most(self):
        self.has_form(2, most(X, Y), (1, 1, 0), (2, 2, 0))
        self.has_form(2, most(Y, X), (1, 1, 0), (2, 2, 0))
        self.has_form(1, most(X, X), (1, 1, 0))
        self.has_form(1, most(X, ZERO), (1, 1, 0))
        self.has_form(2, up(most(X, up(Y))), (0, 0, 2), (1, 1, 1), (2, 2, 2))
        self.has_form(1, most(up(ZERO, 2), up(ZERO, 5)), (0, 0, 5))

    def test_over(self):
        self.has_form(2, over(X, Y), (2, 2, 0), (3, 1, 0))
        self.has_form(2, over(Y, X), (1, 1, 0), (3, 2, 0))
        self.has_form(1, over(X, X), (1, 1, 0))
        self.has_form(1, over(ZERO, X), (1, 1, 0))
        self.has_form(2, over(X, up(Y)), (0, 0, 1), (1, 1, 0), (2, 2, 1))
        self.has_form(2, over(up(X), Y), (2, 2, 0), (3, 1, 1))
        self.has_form(2, over(up(X, 2), Y), (2, 0, 2), (2, 2, 0), (3, 1, 2))
        self.has_form(1, over(up(ZERO), X), (1, 1, 0))
        self.has_form(1, over(up(ZERO, 2), X), (1, 0, 2), (1, 1, 0))

    def test_nested(self):
        self.has_form(1, up(over(up(ZERO, 2), X)), (0, 0, 1), (1, 0, 3), (1, 1, 1))
        self.has_form(2, up(over(X, Y)), (0, 0, 1), (2, 2, 1), (3, 1, 1))
        self.has_form(3, over(X, over(Y, Z)), (4, 3, 0), (5, 1, 0), (6, 2, 0))
        self.has_form(3, over(over(X, Y), Z), (4, 3, 0), (6, 2, 0), (7, 1, 0))
        self.has_form(3, over(X, most(Y, Z)), (2, 2, 0), (3, 1, 0), (4, 3, 0), (5, 1, 0))
        self.has_form(2, most(over(X, Y), over(Y, X)), (1, 1, 0), (2, 2, 0))
        self.has_form(2, over(over(X, Y), X), (1, 1, 0), (3, 2, 0))

    def test_parts_never_above_another_are_left_out(self):
        self.has_form(1, most(X, up(X)), (0, 0, 1), (1, 1, 1))
        self.has_form(1, most(up(X), up(ZERO)), (0, 0, 1), (1, 1, 1))
        self.has_form(1, most(X, over(up(ZERO), X)), (1, 1, 0))
        self.has_form(2, most(X, over(X, Y)), (1, 1, 0), (2, 2, 0))
        self.has_form(2, most(up(X), over(X, Y)), (0, 0, 1), (1, 1, 1), (2, 2, 0))
        self.has_form(2, most(X, over(up(X), Y)), (1, 1, 0), (2, 2, 0), (3, 1, 1))
        self.has_form(1, most(up(ZERO, 3), over(up(ZERO, 3), X)), (0, 0, 3), (1, 1, 0))
        self.has_form(2, most(over(up(ZERO, 3), X), over(over(up(ZERO, 3), X), Y)),
                      (1, 0, 3), (1, 1, 0), (2, 2, 0))

    def test_a_number_alone_against_a_variable_that_is_above_zero(self):
        self.has_form(1, most(up(X, 2), over(up(ZERO, 3), X)), (0, 0, 2), (1, 1, 2))
        self.has_form(1, most(up(X, 2), over(up(ZERO, 4), X)), (0, 0, 2), (1, 0, 4), (1, 1, 2))

    def test_order_of_the_parts(self):
        level = most(most(over(up(ZERO, 9), Z), over(up(Y, 2), X)), most(up(W, 3), over(over(up(ZERO, 7), X), Y)))
        self.has_form(4, level, (0, 0, 3), (1, 1, 0), (2, 2, 0), (3, 0, 7), (3, 2, 2), (4, 0, 9), (4, 3, 0), (8, 4, 3))
        three = most(over(over(up(ZERO, 6), X), Y), most(over(up(X), Y), over(up(Y, 2), X)))
        self.has_form(2, three, (1, 0, 2), (1, 1, 0), (2, 2, 0), (3, 0, 6), (3, 1, 1), (3, 2, 2))

    def test_four_variables(self):
        self.has_form(4, most(most(X, Y), most(Z, W)), (1, 1, 0), (2, 2, 0), (4, 3, 0), (8, 4, 0))
        self.has_form(4, over(X, over(Y, over(Z, W))), (8, 4, 0), (9, 1, 0), (10, 2, 0), (12, 3, 0))
        self.has_form(4, over(over(over(X, Y), Z), W), (8, 4, 0), (12, 3, 0), (14, 2, 0), (15, 1, 0))

    def test_twenty_deep(self):
        self.has_form(4, up(W, 19), (0, 0, 19), (8, 4, 19))
        self.has_form(2, over(up(ZERO, 18), Y), (2, 0, 18), (2, 2, 0))


def never_above(part, other):
    """So small are the numbers here that values up to 9 tell it."""
    return all(part_value(part, values) <= part_value(other, values) for values in grid_of(part, other))


def grid_of(*parts):
    n = max(max(part[0].bit_length() for part in parts), 1)
    return itertools.product((0, 1, 2, 9), repeat=n)


class FormAgainstTheWords(unittest.TestCase):
    def levels(self):
        source = chance(11)
        for n in (1, 2, 3, 4):
            for time in range(150):
                yield n, random_level(source, n, source.randrange(1, 7))

    def grid(self, n):
        return list(itertools.product((0, 1, 2, 3, 9, 20) if n < 4 else (0, 1, 2, 9), repeat=n))

    def test_the_greatest_of_the_parts_is_the_value_and_no_part_can_be_left_out(self):
        for n, level in self.levels():
            hold_form(self, ask_in(n, form(level))[0], lambda values: reckon(level, values), self.grid(n))

    def test_parts_are_parts_and_stand_in_order(self):
        for n, level in self.levels():
            parts = parts_of(ask_in(n, form(level))[0])
            places = [part[:2] for part in parts]
            self.assertEqual(places, sorted(set(places)), level)
            for members, variable, number in parts:
                self.assertIn(members, range(2 ** n))
                self.assertTrue(number > 0 if variable == 0 else members >> (variable - 1) & 1, level)

    def test_no_choice_of_parts_is_smaller(self):
        """Every part that's never above the level is never above one part of its form: so none serves for two."""
        source = chance(12)
        for time in range(60):
            n = source.randrange(1, 4)
            level = random_level(source, n, source.randrange(1, 5))
            parts = parts_of(ask_in(n, form(level))[0])
            grid = list(itertools.product((0, 1, 2, 9), repeat=n))
            for members in range(2 ** n):
                for variable in range(n + 1):
                    if variable and not members >> (variable - 1) & 1:
                        continue
                    for number in range(6):
                        part = (members, variable, number)
                        if any(part_value(part, values) > reckon(level, values) for values in grid):
                            break
                        if (variable, number) != (0, 0):
                            self.assertTrue(any(never_above(part, other) for other in parts), (level, part))

    def test_one_form_just_if_alike_for_all_values(self):
        source = chance(13)
        alike = 0
        for n in (1, 2):
            grid = list(itertools.product(range(8), repeat=n))
            levels = [random_level(source, n, 4) for time in range(60)]
            forms = ask_in(n, *[form(level) for level in levels[:59]]) + ask_in(n, form(levels[59]))
            tables = [[reckon(level, values) for values in grid] for level in levels]
            for i, j in itertools.combinations(range(60), 2):
                self.assertEqual(forms[i] == forms[j], tables[i] == tables[j], (levels[i], levels[j]))
                alike += forms[i] == forms[j]
        self.assertGreater(alike, 50)
