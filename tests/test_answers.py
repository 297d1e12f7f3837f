import contextlib
import io
import time
import unittest

from levelforms.house import answers

from tests.helper import (LARGEST, ZERO, ask, begin, chance, first_where, form, leq, most, over, part_value, parts_of,
                          reckon, same, up, value, values_in_order, var)

X, Y, Z, W = var(0), var(1), var(2), var(3)

WRITTEN_OUT = [
    (form((5,)), [1, -1]),
    (form(up(X)), [7, 2, 0, 0, 1, 1, 1, 1]),
    (begin(2), [1, 0]),
    (leq(X, Y), [3, 0, 1, 0]),
    (leq(X), [1, -1]),
    (begin(0), [1, -1]),
    (same(over(X, Y), over(Y, X)), [3, 0, 0, 1]),
    (same(most(X, Y), most(Y, X)), [1, 1]),
    (value(over(up(X), Y), (6, 1)), [1, 7]),
    (form(ZERO), [1, 0]),
    (form(()), [1, -1]),
    (begin(3), [1, 0]),
    (leq(Z, ZERO), [4, 0, 0, 0, 1]),
    (value(X, (1, 2)), [1, -1]),
]


def flat(pieces):
    return [number for piece in pieces for number in piece]


def hard_level(source, length):
    """A bushy level of so many numbers, in four variables; what stands second in over can be 0, mostly."""
    leaves = length // 4
    pieces = [var(source.randrange(4)) for leaf in range(leaves)]
    for time in range(length - (3 * leaves - 1)):
        place = 2 * source.randrange(leaves // 2)
        pieces[place] = up(pieces[place])
    while len(pieces) > 1:
        pairs = zip(pieces[::2], pieces[1::2])
        odd = pieces[len(pieces) // 2 * 2:]
        pieces = [source.choice((most, over, over))(*pair) for pair in pairs] + odd
    return pieces[0]


class Answers(unittest.TestCase):
    def test_several_calls_in_one_list(self):
        given = answers(flat(call for call, answer in WRITTEN_OUT))
        self.assertEqual(given, flat(answer for call, answer in WRITTEN_OUT))

    def test_one_call(self):
        self.assertEqual(answers([0, 4]), [1, 0])
        self.assertEqual(answers([0, LARGEST]), [1, -1])
        self.assertEqual(answers([1, 0]), [1, -1])
        self.assertEqual(answers([1, 1, 0]), [1, 0])
        self.assertEqual(answers([2, 2, 0, 0]), [1, 1])
        self.assertEqual(answers([3, 4, 4, 0, 1, 0]), [2, 0, 0])
        self.assertEqual(answers([4, 2, 0, 9]), [1, 0])

    def test_refusals_at_the_beginning_the_middle_and_the_end(self):
        fit = form(up(X))
        fit_answer = [2, 0, 0, 1, 1, 1, 1]
        for misfit in (begin(5), form(), form((1,) * 120), leq(X, X, X), same((4, 1), X), value(X), value(X, (1, 1))):
            for place in range(5):
                calls = [fit] * 4
                calls.insert(place, misfit)
                expected = [fit_answer] * 4
                expected.insert(place, [-1])
                self.assertEqual(ask(*calls), expected)
            self.assertEqual(ask(misfit, misfit), [[-1], [-1]])

    def test_all_answers_are_plain_ints_in_a_list(self):
        given = answers(flat(call for call, answer in WRITTEN_OUT))
        self.assertIs(type(given), list)
        self.assertEqual({type(number) for number in given}, {int})

    def test_what_is_handed_in_is_not_changed(self):
        class Watched(list):
            def refuse(self, *told):
                raise AssertionError("calls was changed")
            append = extend = insert = pop = remove = clear = sort = reverse = refuse
            __setitem__ = __delitem__ = __iadd__ = __imul__ = refuse
        calls = flat(call for call, answer in WRITTEN_OUT)
        kept = list(calls)
        answers(calls)
        self.assertEqual(calls, kept)
        watched = Watched(kept)
        self.assertEqual(answers(watched), flat(answer for call, answer in WRITTEN_OUT))
        self.assertEqual(list(watched), kept)

    def test_nothing_is_kept_from_one_time_to_the_next(self):
        calls = flat(call for call, answer in WRITTEN_OUT)
        first = answers(calls)
        self.assertEqual(answers(calls), first)
        answers(begin(4))
        self.assertEqual(answers(calls), first)
        self.assertEqual(ask(form(Y)), [[-1]])
        first.append(5)
        self.assertEqual(answers(calls), first[:-1])

    def test_nothing_is_printed(self):
        out, err = io.StringIO(), io.StringIO()
        with contextlib.redirect_stdout(out), contextlib.redirect_stderr(err):
            answers(flat(call for call, answer in WRITTEN_OUT))
        self.assertEqual((out.getvalue(), err.getvalue()), ("", ""))


class Hard(unittest.TestCase):
    def setUp(self):
        source = chance(41)
        levels = [hard_level(source, 60) for time in range(10)]
        self.pairs = [(levels[i % 10], levels[(3 * i + i // 10) % 10]) for i in range(20)]
        self.formed = [hard_level(source, 120) for time in range(20)]
        self.valued = [(hard_level(source, 116), (i, 1, i % 3, LARGEST - i)) for i in range(19)]

    def ask_all(self):
        calls = [begin(4)]
        calls += [(leq if i % 2 else same)(*pair) for i, pair in enumerate(self.pairs)]
        calls += [form(level) for level in self.formed]
        calls += [value(*both) for both in self.valued]
        self.assertEqual([len(call) for call in calls], [2] + [122] * 59)
        began = time.perf_counter()
        asked = ask(*calls)
        self.assertLess(time.perf_counter() - began, 5)
        self.assertEqual(len(asked), 60)
        return asked

    def test_sixty_calls_with_rows_of_120_numbers(self):
        asked = self.ask_all()
        ordered = values_in_order(4, 12)
        for i, pair in enumerate(self.pairs):
            def holds(values):
                first, second = reckon(pair[0], values), reckon(pair[1], values)
                return first > second if i % 2 else first != second
            self.assertEqual(asked[1 + i], first_where(ordered, holds))
        self.assertEqual({answer[0] for answer in asked[1:21]}, {0, 1})
        for level, answer in zip(self.formed, asked[21:41]):
            for values in ordered[::7]:
                heights = [part_value(part, values) for part in parts_of(answer)]
                self.assertEqual(max(heights, default=0), reckon(level, values))
        self.assertEqual(asked[41:], [[reckon(*both)] for both in self.valued])
