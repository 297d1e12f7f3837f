"""Which lists are so many levels and nothing else, for all calls that take levels."""

import unittest

from tests.helper import LARGEST, ZERO, ask_in, bound, clash, form, leq, most, over, put, same, up, value, var

MISFITS = (
    (),
    (1,),
    (2,),
    (2, 0),
    (3, 0),
    (3, 1, 0),
    (4,),
    (1, 4),
    (2, 0, 4),
    (5,),
    (5, 0),
    (1, 5),
    (2, 0, 5),
    (6, 0, 0),
    (LARGEST,),
    (1, LARGEST),
    (4, 2),
    (4, 3),
    (4, 4),
    (4, LARGEST),
    (1, 4, 2),
    (2, 4, 0, 4, 2),
    (3, 4, 2, 0),
)


def deep(levels_deep, leaf=ZERO):
    return up(leaf, levels_deep - 1)


def deep_on_the_left(levels_deep, join):
    level = ZERO
    for step in range(levels_deep - 1):
        level = join(level, var(0))
    return level


def deep_on_the_right(levels_deep, join):
    level = var(1)
    for step in range(levels_deep - 1):
        level = join(ZERO, level)
    return level


def of_depth(depth):
    yield deep(depth)
    yield deep(depth, var(1))
    for join in (most, over):
        yield deep_on_the_left(depth, join)
        yield deep_on_the_right(depth, join)
    yield most(ZERO, deep(depth - 1))
    yield over(deep(depth - 1), var(0))


class Levels(unittest.TestCase):
    def refused(self, *calls):
        for call, answer in zip(calls, ask_in(2, *calls)):
            self.assertEqual(answer, [-1], call)

    def taken(self, *calls):
        for call, answer in zip(calls, ask_in(2, *calls)):
            self.assertGreaterEqual(answer[0], 0, call)

    def test_what_is_no_level_is_refused(self):
        for misfit in MISFITS:
            self.refused(form(misfit), leq(misfit), same(misfit), value(misfit))
            self.refused(leq(ZERO, misfit), same(ZERO, misfit), leq(var(1), misfit), same(var(1), misfit))
            self.refused(put(misfit), put(ZERO, misfit), put(var(1), var(0), misfit))
            self.refused(bound(0, misfit), clash(1, misfit))
        for misfit in ((5,), (LARGEST,), (4, 2), (4, LARGEST), (1, 5), (2, 0, 5), (3, 4, 2, 0)):
            self.refused(leq(misfit, ZERO), same(misfit, ZERO), value(misfit, (0, 0)), value(misfit, (1, 1)))
            self.refused(put(misfit, ZERO, ZERO), put(ZERO, misfit, ZERO), put(ZERO, ZERO, misfit))

    def test_form_bound_and_clash_take_just_one_level(self):
        for told in ((ZERO, ZERO), (var(0), (1,)), (up(ZERO), (0,)), (most(ZERO, ZERO), (LARGEST,))):
            self.refused(form(*told), bound(0, *told), clash(0, *told))

    def test_leq_and_same_take_just_two_levels(self):
        for call in (leq, same):
            self.refused(call(), call(ZERO), call(var(0)), call(most(var(0), var(1))))
            self.refused(call(ZERO, ZERO, ZERO), call(var(0), var(0), var(0)), call(ZERO, ZERO, (LARGEST,)))
            self.refused(call(var(0), var(1), (4,)), call(up(ZERO), ZERO, (1,)))
            self.taken(call(ZERO, ZERO), call(var(0), up(var(1))))

    def test_twenty_deep_is_taken(self):
        for level in of_depth(20):
            self.taken(form(level), leq(level, ZERO), leq(ZERO, level), same(level, level), value(level, (1, 2)))
            self.taken(put(level, ZERO, ZERO), put(ZERO, level, ZERO), put(var(0), ZERO, level))
            for call in (bound, clash):
                self.assertNotIn([-1], ask_in(2, call(0, level), call(1, level)))

    def test_twenty_one_deep_is_refused(self):
        for level in of_depth(21):
            self.refused(form(level), leq(level, ZERO), leq(ZERO, level), value(level, (1, 2)))
            self.refused(put(level, ZERO, ZERO), put(ZERO, level, ZERO), put(var(0), ZERO, level))
            self.refused(same(level, ZERO), same(ZERO, level), bound(0, level), clash(0, level))

    def test_far_too_deep_is_refused(self):
        for level in (deep(119), deep(120), (1,) * 120, (2,) * 120, (3,) * 120):
            self.refused(form(level), leq(level), same(level), value(level))
            self.refused(put(level), bound(0, level), clash(0, level))

    def test_a_row_of_120_numbers_is_taken(self):
        level = ZERO
        for step in range(13):
            level = most(level, over(up(var(0)), up(var(1), 2)))
        level = up(level, 2)
        self.assertEqual(len(level), 120)
        self.assertEqual(ask_in(2, form(level)), [[3, 0, 0, 4, 1, 1, 3, 2, 2, 4]])


class VariablesThere(unittest.TestCase):
    def test_just_the_variables_below_n(self):
        for n in range(1, 5):
            for i in range(6):
                expected = [1] if i < n else [-1]
                self.assertEqual(ask_in(n, same(var(i), var(i)))[0], expected)
