import unittest

from tests.helper import LARGEST, ZERO, ask, begin, form, leq, same, value, var


class Begin(unittest.TestCase):
    def variables_there(self, *calls):
        """How many variables a house has after these calls."""
        asked = ask(*calls, *[form(var(i)) for i in range(7)])[len(calls):]
        there = [answer != [-1] for answer in asked]
        self.assertEqual(there, sorted(there, reverse=True))
        return sum(there)

    def test_one_variable_ahead_of_any_begin(self):
        self.assertEqual(self.variables_there(), 1)
        self.assertEqual(ask(form(var(0))), [[1, 1, 1, 0]])
        self.assertEqual(ask(form(var(1))), [[-1]])
        self.assertEqual(ask(leq(var(0), ZERO)), [[0, 1]])
        self.assertEqual(ask(same(ZERO, var(0))), [[0, 1]])
        self.assertEqual(ask(value(var(0), (7,))), [[7]])
        self.assertEqual(ask(value(var(0), (7, 7))), [[-1]])

    def test_one_to_four(self):
        for n in range(1, 5):
            self.assertEqual(ask(begin(n)), [[0]])
            self.assertEqual(self.variables_there(begin(n)), n)
            self.assertEqual(ask(begin(n), leq(var(0), ZERO))[1], [0, 1] + [0] * (n - 1))
            self.assertEqual(ask(begin(n), value(var(n - 1), range(n)))[1], [n - 1])

    def test_wrong_n_is_refused_and_changes_nothing(self):
        for n in (0, 5, 6, 16, LARGEST):
            self.assertEqual(ask(begin(n)), [[-1]])
            self.assertEqual(self.variables_there(begin(n)), 1)
            for earlier in range(1, 5):
                self.assertEqual(ask(begin(earlier), begin(n)), [[0], [-1]])
                self.assertEqual(self.variables_there(begin(earlier), begin(n)), earlier)

    def test_begin_a_second_time(self):
        for first in range(1, 5):
            for second in range(1, 5):
                self.assertEqual(ask(begin(first), begin(second)), [[0], [0]])
                self.assertEqual(self.variables_there(begin(first), begin(second)), second)

    def test_other_refusals_change_nothing(self):
        for refused in (form(), leq(ZERO), same(var(3), var(3)), value(ZERO, (1,)), form(var(2))):
            self.assertEqual(ask(begin(2), refused)[1], [-1])
            self.assertEqual(self.variables_there(begin(2), refused), 2)
