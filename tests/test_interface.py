import builtins
import contextlib
import inspect
import io
import sys
import unittest
from unittest import mock

import plainparty
import plainparty.parties
from lines import TOP, add, after, answered, check_four, check_plan, count, crowd, drop, link, linked, loners, plan
from lines import both_ways, crowd_of, known_pairs, laid, strangers
from plainparty.parties import answers


def every_call():
    """Each of the calls, answered and refused."""
    return laid([
        count(), add(), add(0, TOP), add(2, 1, 1), drop(7), drop(4), drop(0), link(1, 2, 0), link(1, 0, 1),
        link(1, 2, 2), linked(1, 2), linked(2, 2), linked(0, 1), add(1, 2), *strangers(4), add(3), count(),
        plan(), crowd(), loners(), link(1, 3, 1), plan(), crowd(), loners(), check_plan(), check_plan(*range(12)),
        check_plan(3, 4, TOP), check_four(2, 0, 1, 3), check_four(TOP, 0, 1, 3), check_four(), drop(2),
        check_plan(3, 0, 0, 1, 1, 4, 4, 5, 5, 6), plan(),
    ])


EVERY_ANSWER = [
    [0], [0], [1], [2], [-1], [-3], [0], [0], [-3], [-1], [0], [-1], [-3], [0], [3], [4], [5], [6], [-2], [7],
    [1, 1, 2, 0, 2, 2, 3, 3, 4, 4, 5, 5, 6], [2, 0, 1, 0, 1, 1, 0, 0, 0, 0], [6, 1, 2, 3, 4, 5, 6, 0, 0, 1, 2, 3, 4, 5],
    [0], [0, 2, 0, 1, 3], [-4], [-4], [0], [0], [0], [1], [0], [0],
    [0], [1], [1, 0, 3, 1, 3, 3, 4, 4, 5, 5, 6],
]


class Unchanging(list):
    """A list that fails when something changes it, if only for a while."""

    def refuse(self, *values, **named):
        raise AssertionError("the list that was handed in is changed")

    append = extend = insert = pop = remove = clear = sort = reverse = refuse
    __setitem__ = __delitem__ = __iadd__ = __imul__ = refuse


class Names(unittest.TestCase):
    def test_answers_takes_calls(self):
        self.assertEqual(list(inspect.signature(plainparty.parties.answers).parameters), ["calls"])
        self.assertEqual(plainparty.parties.answers(calls=[4]), [1, 0])

    def test_the_call_numbers(self):
        self.assertEqual(answers([0, 0]), [1, 0])
        self.assertEqual(answers([0, 0, 1, 0, 4]), [1, 0, 1, 0, 1, 0])
        self.assertEqual(answers([0, 0, 0, 0, 2, 0, 1, 1, 3, 1, 0]), [1, 0, 1, 1, 1, 0, 1, 1])
        self.assertEqual(answers([4]), [1, 0])
        line = [0, 0, 0, 1, 0, 0, 1, 1]
        told = [1, 0, 1, 1, 1, 2]
        self.assertEqual(answers([*line, 5]), [*told, 5, 1, 0, 2, 1, 2])
        self.assertEqual(answers([*line, 6]), [*told, 6, 2, 0, 1, 0, 1, 0])
        self.assertEqual(answers([*line, 7]), [*told, 6, 2, 0, 2, 0, 0, 1])
        self.assertEqual(answers([*line, 8, 4, 2, 0, 1, 0]), [*told, 1, 1])
        self.assertEqual(answers([*line, 0, 1, 2, 9, 4, 3, 2, 1, 0]), [*told, 1, 3, 1, 1])


class Layout(unittest.TestCase):
    def test_answers_stand_one_behind_another_with_their_counts(self):
        calls = [0, 0, 0, 1, 0, 3, 0, 1, 2, 0, 1, 0, 3, 1, 0, 1, 0, 4]
        self.assertEqual(answers(calls), [1, 0, 1, 1, 1, 1, 1, 0, 1, 0, 1, 0, 1, 1])

    def test_a_refusal_is_one_number_alone(self):
        calls = [1, 9, 1, 0, 2, 0, 0, 0, 2, 0, 1, 1, 3, 5, 5, 3, 0, 1]
        self.assertEqual(answers(calls), [1, -1, 1, -3, 1, -1, 1, -3, 1, -1, 1, -3])
        self.assertEqual(answers([0, 0] * 8), [1, 0, 1, 1, 1, 2, 1, 3, 1, 4, 1, 5, 1, 6, 1, -2])

    def test_a_row_that_looks_like_calls(self):
        self.assertEqual(answers([0, 5, 4, 4, 0, 0, 4, 4]), [1, 0, 1, 1])
        self.assertEqual(answers([0, 1, 0, 0, 2, 1, 0, 3, 0, 1]), [1, 0, 1, 1, 1, 1])
        self.assertEqual(answers([8, 3, 4, 4, 4, 9, 4, 0, 0, 8, 0, 8, 0, 4]), [1, 0, 1, 0, 1, 1, 1, 0])

    def test_answers_of_many_numbers(self):
        self.assertEqual(answers([5, 6, 7, 4]), [1, 1, 1, 0, 1, 0, 1, 0])
        self.assertEqual(answers([0, 0, 5, 6, 7, 4]), [1, 0, 1, 1, 3, 1, 0, 0, 3, 1, 0, 0, 1, 1])
        told = [1, 0, 1, 1, 3, 1, 0, 1, 5, 2, 0, 1, 0, 1, 4, 1, 0, 0, 0, 1, 2]
        self.assertEqual(answers([0, 0, 0, 1, 0, 5, 6, 7, 4]), told)
        told = [1, 0, 1, 1, 1, 2, 1, 3, 5, 0, 0, 1, 2, 3, 1, -4, 1, -4, 1, 4]
        self.assertEqual(answers([0, 0, 0, 1, 0, 0, 1, 1, 0, 1, 2, 5, 6, 7, 4]), told)

    def test_every_call(self):
        told = [number for answer in EVERY_ANSWER for number in (len(answer), *answer)]
        self.assertEqual(answers(every_call()), told)

    def test_whole_numbers_in_a_list(self):
        told = answers(every_call())
        self.assertIs(type(told), list)
        self.assertEqual({type(number) for number in told}, {int})


class Size(unittest.TestCase):
    def test_60_calls(self):
        self.assertEqual(answered(*[count()] * 60), [[0]] * 60)
        comings = [add(), drop(0)] * 30
        self.assertEqual(answered(*comings), [[0]] * 60)

    def test_60_calls_with_800_numbers(self):
        rows = [add(*[place % 9 for place in range(80)]) for guest in range(7)]
        links = [link(0, 1, 0), link(1, 0, 1)] * 16
        line = laid([*rows, *links, *[count()] * 20, add(*[TOP] * 76)])
        self.assertEqual((len(rows) + len(links) + 21, len(line)), (60, 800))
        told = [0, 1, 2, 3, 4, 5, 6, *[0] * 32, *[7] * 20, -2]
        self.assertEqual(answers(line), [number for answer in told for number in (1, answer)])

    def test_60_calls_of_all_kinds_with_800_numbers(self):
        rows = [check_plan(*[0, 1] * 50), check_four(*[0, 1, 2, 3] * 25), check_plan(*[TOP] * 100), add(*[6] * 100)]
        asked = [plan(), crowd(), loners(), count(), linked(0, 6), link(0, 6, 1), link(0, 6, 0)] * 6
        line = [*crowd_of(7), *rows, *asked, drop(6), *[count()] * 5, check_plan(*[1] * 258)]
        self.assertEqual((len(line), len(laid(line))), (60, 800))
        self.assertEqual({call[0] for call in line}, set(range(10)))
        whole = [
            [1, 0, 1, 1, 2, 2, 3, 3, 4, 4, 5, 5, 6], [7, *range(7), *range(7)],
            [1, 0, *[0] * 7], [7], [1], [0], [0],
        ]
        less = [
            [1, 0, 6, 1, 2, 2, 3, 3, 4, 4, 5, 5, 6], [6, 0, 1, 2, 3, 4, 5, 0, 1, 2, 3, 4, 5, 0],
            [2, 0, 6, 0, 0, 0, 0, 0, 0, 1], [7], [0], [0], [0],
        ]
        told = [[guest] for guest in range(7)] + [[0], [0], [0], [-2]] + whole + less * 5 + [[0], *[[6]] * 5, [0]]
        self.assertEqual(answered(*line), told)

    def test_a_row_of_790_numbers(self):
        far = [TOP - number for number in range(787)]
        row = [*far[:700], 1, *far[700:], 1, 5]
        self.assertEqual(len(row), 790)
        self.assertEqual(answered(add(), add(), add(*row), linked(2, 1)), [[0], [1], [2], [1]])
        self.assertEqual(answered(add(), add(), add(*row), linked(0, 2)), [[0], [1], [2], [0]])

    def test_the_last_number_of_a_row_of_several_hundred(self):
        before = [*strangers(2), add(*[TOP] * 300, *[1] * 300, 0)]
        self.assertEqual(known_pairs(before, range(3)), both_ways((2, 0), (2, 1)))
        before = [*strangers(2), add(*[7] * 600, 1)]
        self.assertEqual(known_pairs(before, range(3)), both_ways((2, 1)))

    def test_few_calls_within_one_another(self):
        depth = len(inspect.stack(0))
        limit = sys.getrecursionlimit()
        lines = [[0, 790, *[6] * 790], [4] * 60, [0, 0, 1, 0] * 30, [8, 790, *[0, 1] * 395], [9, 790, *[TOP] * 790]]
        sys.setrecursionlimit(depth + 30)
        try:
            told = [answers(line) for line in lines]
        finally:
            sys.setrecursionlimit(limit)
        self.assertEqual(told, [[1, 0], [1, 0] * 60, [1, 0] * 60, [1, 0], [1, 0]])


class Kept(unittest.TestCase):
    def test_what_is_handed_in_is_the_same_afterwards(self):
        calls = every_call()
        copy = list(calls)
        answers(calls)
        self.assertEqual(calls, copy)

    def test_what_is_handed_in_is_not_changed_for_a_while(self):
        self.assertEqual(answers(Unchanging(every_call())), answers(every_call()))

    def test_two_runs_answer_the_same(self):
        calls = every_call()
        first = answers(calls)
        self.assertEqual(answers(calls), first)

    def test_nothing_is_kept_from_one_time_to_the_next(self):
        expected = answers(every_call())
        for others in (crowd_of(7), strangers(7), [*crowd_of(7), drop(2)]):
            answers(laid(others))
            self.assertEqual(answers([4]), [1, 0])
            self.assertEqual(answers(every_call()), expected)
            self.assertEqual(known_pairs(strangers(7), range(7)), set())

    def test_the_given_list_is_the_callers_own(self):
        first = answers([4, 0, 0])
        first.clear()
        self.assertEqual(answers([4, 0, 0]), [1, 0, 1, 0])

    def test_it_prints_reads_and_imports_nothing(self):
        printed = io.StringIO()
        refuse = mock.Mock(side_effect=AssertionError)
        with contextlib.redirect_stdout(printed), contextlib.redirect_stderr(printed):
            with mock.patch.object(builtins, "open", refuse), mock.patch.object(builtins, "input", refuse):
                with mock.patch.object(builtins, "__import__", refuse), mock.patch.object(sys, "stdin", refuse):
                    answers(every_call())
        self.assertEqual(printed.getvalue(), "")
        self.assertEqual(refuse.mock_calls, [])


class Refusals(unittest.TestCase):
    def test_each_refusal_changes_nothing(self):
        before = [add(), add(0), add(1), add(2), drop(1)]
        refusals = [
            drop(7), drop(1), drop(6), link(0, 0, 1), link(0, 7, 1), link(TOP, 0, 1), link(0, 2, 2), link(2, 3, TOP),
            link(0, 1, 1), link(6, 3, 0), linked(2, 2), linked(7, 2), linked(1, 0),
        ]
        whole = [*[linked(u, v) for u in range(4) for v in range(u)], count(), add(3), linked(1, 3), linked(1, 0)]
        expected = after(before, *whole)
        for refusal in refusals:
            told = after(before, refusal, *whole)
            self.assertLess(told[0][0], 0)
            self.assertEqual(told[1:], expected, refusal)


if __name__ == "__main__":
    unittest.main()
