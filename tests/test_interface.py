"""answers(calls): how lists are read and written, and what a call may not do."""

import contextlib
import copy
import inspect
import io
import sys
import unittest

import duelaims.duel
from duelaims.duel import answers

from asking import (
    GREATEST, THREE, aim, aims, air, ask, best, better, chances_of_all, chances_of_set, duel, improve, joined,
)

# All nine kinds, taken and refused.
SESSION = joined([
    duel(*THREE), chances_of_all(0), best(7, 0), better(), aim(7, 0, 3), chances_of_all(0), aims(7), better(), air(),
    duel(0, 1, 1), chances_of_set(6, 1), chances_of_set(6, 0), aims(8), chances_of_all(3), best(4, 0), best(6, 0),
    aim(6, 1, 3), air(), improve(31), improve(0), improve(30), aims(6), aim(7, 0, 0), air(), duel(5, 0, 5),
    best(3, 0), better(), improve(1), air(),
])

SESSION_ANSWERS = [
    1, 3,
    9, 0, 59, 189, 34, 63, 4, 27, 0, 1,
    4, 1, 3, 25, 63,
    4, 1, 7, 0, 3,
    1, 2,
    9, 0, 25, 63, 8, 21, 2, 9, 0, 1,
    4, 3, 3, 2, 1,
    1, 0,
    1, 1,
    1, -1,
    9, 0, 0, 1, 2, 3, 1, 3, 0, 1,
    1, -2,
    1, -1,
    1, -2,
    1, -1,
    1, -2,
    1, 2,
    1, 2,
    1, -1,
    2, 0, 1,
    2, 1, 0,
    3, 2, 2, 1,
    1, -3,
    1, 1,
    1, 2,
    5, 2, 1, 2, 0, 1,
    1, 0,
    2, 0, 0,
    1, 0,
]


class Sealed(list):
    """A list that can't be changed, not even for a while."""

    def refuse(self, *given, **named):
        raise AssertionError("what was handed in is changed")

    append = extend = insert = pop = remove = clear = sort = reverse = refuse
    __setitem__ = __delitem__ = __iadd__ = __imul__ = refuse


class Lists(unittest.TestCase):
    def test_name_and_argument(self):
        self.assertEqual(list(inspect.signature(duelaims.duel.answers).parameters), ["calls"])

    def test_one_call(self):
        self.assertEqual(answers([2, 3]), [3, 2, 1, 0])
        self.assertEqual(answers([3, 0]), [7, 0, 1, 1, 0, 1, 0, 1])
        self.assertEqual(answers([4, 3, 1]), [7, 0, 0, 1, 1, 1, 0, 1])
        self.assertEqual(answers([1, 3, 0, 2]), [1, 1])
        self.assertEqual(answers([0, 5, 2, 4, 5]), [1, 2])
        self.assertEqual(answers([0, 5, 0]), [1, -1])
        self.assertEqual(answers([5, 3, 0]), [4, 1, 1, 1, 1])
        self.assertEqual(answers([6]), [1, 0])
        self.assertEqual(answers([7, 30]), [2, 0, 0])
        self.assertEqual(answers([8]), [1, 0])

    def test_several_calls_each_with_its_count(self):
        self.assertEqual(answers(SESSION), SESSION_ANSWERS)

    def test_a_refused_row_is_read_to_its_end(self):
        self.assertEqual(answers([0, 61, 3, 3, 0, 2, 2, 3, 0, 5, 0, 2, 3]), [1, -1, 3, 2, 1, 0, 1, -1, 3, 2, 1, 0])

    def test_forty_calls(self):
        calls = []
        expected = []
        for shot in range(10):
            calls += [duel(5, 1, 2, 3), aim(7, 0, 3), aims(7), chances_of_all(4)]
            expected += [[3], [2], [3, 3, 2, 1], [-2]]
        self.assertEqual(ask(*calls), expected)

    def test_calls_of_no_numbers_one_behind_another(self):
        self.assertEqual(answers([8, 6, 6, 8, 7, 0, 8, 5, 1, 0, 6, 2, 3]),
                         [1, 0, 1, 0, 1, 0, 1, 0, 2, 0, 0, 1, 0, 1, -1, 1, 0, 3, 2, 1, 0])
        self.assertEqual(answers([8] * 20 + [6] * 20), [1, 0] * 40)

    def test_forty_long_calls(self):
        call = duel(GREATEST, *[GREATEST] * 40)
        self.assertEqual(answers(call * 40), [1, -1] * 40)

    def test_forty_large_answers(self):
        told = ask(duel(60, 59, 53, 47, 43), *[chances_of_all(number % 4) for number in range(39)])
        self.assertEqual(told[1:5], told[5:9])
        self.assertTrue(all(len(answer) == 11 for answer in told[1:]))

    def test_plain_whole_numbers_in_a_plain_list(self):
        told = answers(SESSION)
        self.assertIs(type(told), list)
        self.assertEqual({type(number) for number in told}, {int})

    def test_gone_through_by_loops(self):
        changing = joined([duel(4, 1, 2, 2), aim(7, 2, 0)] + [improve(30)] * 3)
        deepest = sys.getrecursionlimit()
        # Little more than what stands around this test: a call a step would not fit.
        sys.setrecursionlimit(len(inspect.stack(0)) + 25)
        try:
            told = answers(duel(60, *[1] * 40) * 39 + [2, 3])
            changed = answers(changing)
        finally:
            sys.setrecursionlimit(deepest)
        self.assertEqual(told, [1, -1] * 39 + [3, 2, 1, 0])
        self.assertEqual(changed, [1, 3, 1, 1] + [2, 30, 1] * 3)


class NothingElse(unittest.TestCase):
    def test_what_was_handed_in_is_as_it_was(self):
        calls = list(SESSION)
        before = copy.copy(calls)
        answers(calls)
        self.assertEqual(calls, before)

    def test_not_changed_for_a_while_either(self):
        self.assertEqual(answers(Sealed(SESSION)), SESSION_ANSWERS)

    def test_a_second_time_gives_the_same(self):
        first = answers(SESSION)
        between = answers([2, 3])
        self.assertEqual(between, [3, 2, 1, 0])
        self.assertEqual(answers(SESSION), first)

    def test_nothing_is_kept(self):
        answers(joined([duel(4, 1, 2, 3, 4), aim(3, 0, 4)]))
        answers(joined([aim(3, 0, 2), aim(3, 1, 2)]))
        answers(joined([duel(*THREE), improve(30)]))
        self.assertEqual(ask(aims(3), chances_of_all(0), aims(15)), [[2, 1, 0], [0, 1, 1, 0, 1, 0, 1], [-1]])
        self.assertEqual(ask(air(), better(), best(3, 0), duel(*THREE), air(), improve(0)),
                         [[0], [0], [1, 1, 1, 1], [3], [0], [0, 1]])

    def test_a_changed_answer_changes_nothing(self):
        told = answers(SESSION)
        told.clear()
        self.assertEqual(answers(SESSION), SESSION_ANSWERS)

    def test_prints_reads_and_imports_nothing(self):
        out, err = io.StringIO(), io.StringIO()
        kept, sys.stdin = sys.stdin, None
        loaded = set(sys.modules)
        try:
            with contextlib.redirect_stdout(out), contextlib.redirect_stderr(err):
                told = answers(SESSION)
        finally:
            sys.stdin = kept
        self.assertEqual(told, SESSION_ANSWERS)
        self.assertEqual((out.getvalue(), err.getvalue()), ("", ""))
        self.assertEqual(set(sys.modules), loaded)


if __name__ == "__main__":
    unittest.main()
