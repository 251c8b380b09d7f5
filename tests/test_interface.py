"""How calls are handed over and answers given back, and that nothing else happens."""

import contextlib
import inspect
import io
import time
import unittest

from graphpoly.graphs import answers
from tests.helper import ask, begin, building, colourings, edge, flat, flows, forests, holding, orders, parts, points
from tests.helper import split_answers, tutte

LINE = flat([begin(), edge(0, 1), points(3), edge(0, 1), edge(1, 2), edge(5, 0), edge(2, 0), tutte(2, 0), tutte(17, 0),
             colourings(3), colourings(-1), flows(6), flows(65), holding(2), holding(41), forests(1), forests(-1),
             orders(), parts(), points(0), begin(), tutte(0, 0), flows(1), holding(0), forests(0), orders(), parts()])
ANSWERED = [1, 0, 1, -4, 1, 0, 1, 0, 1, 1, 1, -1, 1, 2, 2, 0, 1, 1, -1, 33, 0, 6] + [0] * 31
ANSWERED += [1, -1, 33, 0, 5] + [0] * 31
ANSWERED += [1, -1, 2, 0, 3, 1, -1, 2, 0, 3, 1, -1, 2, 0, 6, 1, 1, 1, -1, 1, 0] + [1, -4] * 6
SECONDS_FOR_A_LINE = 10


class ReadOnlyList(list):
    def refuse(self, *what):
        raise AssertionError("the list that was handed in is being changed")

    append = clear = extend = insert = pop = remove = reverse = sort = refuse
    __setitem__ = __delitem__ = __iadd__ = __imul__ = refuse


class Form(unittest.TestCase):
    def test_for_each_call_how_many_numbers_then_these(self):
        self.assertEqual(answers(LINE), ANSWERED)

    def test_begin_alone(self):
        self.assertEqual(answers([0]), [1, 0])

    def test_numbers_that_look_like_calls_are_not_taken_for_calls(self):
        self.assertEqual(answers([0, 1, 2, 2, 0, 1, 3, 1, 0, 4, 2])[:13], [1, 0, 1, 0, 1, 0, 2, 0, 1, 33, 0, 2, 0])

    def test_of_each_call_its_own_count(self):
        calls = [begin(), points(2), edge(0, 1), tutte(1, 0), colourings(2), flows(2), holding(1), forests(1), orders(),
                 parts()]
        self.assertEqual([len(answer) for answer in ask(*calls)], [1, 1, 1, 2, 33, 33, 2, 2, 2, 1])

    def test_calls_of_no_number_stand_by_themselves(self):
        self.assertEqual(answers([0, 9, 8, 1, 9, 9, 8, 9, 8, 0]),
                         [1, 0, 1, -4, 1, -4, 1, 0, 1, 9, 2, 0, 1, 1, 9, 2, 0, 1, 1, 0])

    def test_numbers_that_look_like_orders_and_parts_are_not_taken_for_calls(self):
        self.assertEqual(answers([0, 1, 9, 6, 8, 7, 9, 2, 8, 8, 5, 9, 6, 0])[:14],
                         [1, 0, 1, 0, 2, 0, 0, 2, 0, 0, 1, 0, 33, 0])

    def test_a_list_of_plain_whole_numbers_is_given_back(self):
        told = answers(LINE)
        self.assertIs(type(told), list)
        self.assertEqual({type(number) for number in told}, {int})

    def test_colourings_are_always_0_and_32_numbers_from_0_to_255(self):
        for n, edges in ((1, []), (1, [(0, 0)]), (16, []), (16, [(a, a + 1) for a in range(14)])):
            for k in (0, 1, 2, 65535, 65536):
                answer = ask(*building(n, edges), colourings(k))[-1]
                self.assertEqual((len(answer), answer[0]), (33, 0))
                self.assertTrue(all(0 <= byte <= 255 for byte in answer[1:]))

    def test_the_argument_is_called_calls(self):
        self.assertEqual(list(inspect.signature(answers).parameters), ["calls"])
        self.assertEqual(answers(calls=[0, 1, 5]), [1, 0, 1, 0])


class NothingElse(unittest.TestCase):
    def test_the_list_is_as_it_was(self):
        handed = list(LINE)
        answers(handed)
        self.assertEqual(handed, LINE)

    def test_the_list_is_not_changed_for_a_while_either(self):
        self.assertEqual(answers(ReadOnlyList(LINE)), ANSWERED)

    def test_the_same_list_twice_gives_the_same(self):
        handed = list(LINE)
        self.assertEqual(answers(handed), answers(handed))

    def test_nothing_is_kept_from_one_time_to_the_next(self):
        first = answers(LINE)
        answers(flat(building(3, [(0, 1), (1, 2)])))
        self.assertEqual(answers([0, 3, 0, 0]), [1, 0, 1, -4])
        self.assertEqual(answers(LINE), first)

    def test_what_was_given_back_is_the_callers_own(self):
        first = answers(LINE)
        first.clear()
        self.assertEqual(answers(LINE), ANSWERED)

    def test_nothing_is_printed(self):
        printed = io.StringIO()
        with contextlib.redirect_stdout(printed), contextlib.redirect_stderr(printed):
            answers(LINE)
        self.assertEqual(printed.getvalue(), "")


class LineAtItsLimits(unittest.TestCase):
    def assert_in_time(self, calls):
        self.assertEqual(len(calls), 60)
        handed = flat(calls)
        started = time.monotonic()
        told = answers(handed)
        self.assertLess(time.monotonic() - started, SECONDS_FOR_A_LINE)
        self.assertEqual(len(split_answers(told)), 60)
        return split_answers(told)

    def test_queries_behind_the_edges(self):
        calls = [begin()] * 24 + building(16, [(a, a + 1) for a in range(14)])
        calls += [tutte(i, 0) for i in range(5, 15)] + [colourings(k) for k in range(65527, 65537)]
        told = self.assert_in_time(calls)
        self.assertEqual(told[40:50], [[0, 0]] * 9 + [[0, 1]])

    def test_queries_between_the_edges(self):
        calls = [begin()] * 24 + [begin(), points(16)]
        for a in range(14):
            calls += [edge(a, 15), tutte(a + 1, 0)]
        calls += [colourings(65536)] * 6
        told = self.assert_in_time(calls)
        self.assertEqual(told[27:54:2], [[0, 1]] * 14)

    def test_all_six_kinds_behind_the_edges(self):
        calls = [begin()] * 24 + building(16, [(a, a + 1) for a in range(14)])
        calls += [tutte(14, 0), colourings(65536), flows(64), holding(14), forests(14), orders()] * 3
        calls += [flows(1), orders()]
        told = self.assert_in_time(calls)
        self.assertEqual([told[place] for place in (40, 42, 43, 44)], [[0, 1], [0] + [0] * 32, [0, 1], [0, 1]])
        self.assertEqual([told[45], told[59]], [[0, 2 ** 14]] * 2)

    def test_all_six_kinds_and_parts_between_the_edges(self):
        kinds = [tutte(1, 0), colourings(65536), flows(64), holding(7), forests(7), orders()]
        calls = [begin(), points(16)]
        for a in range(14):
            calls += [parts(), edge(a, a + 1), kinds[a % 6]]
        calls += kinds + [parts()] * 10
        told = self.assert_in_time(calls)
        self.assertEqual(told[2:44:3], [[16 - a] for a in range(14)])
        self.assertEqual(told[44:], told[44:50] + [[2]] * 10)

    def test_the_wheel(self):
        edges = [(0, a) for a in range(1, 8)] + [(a, a % 7 + 1) for a in range(1, 8)]
        calls = [begin()] * 24 + building(16, edges) + [flows(64), holding(9), forests(7), orders()] * 5
        told = self.assert_in_time(calls)
        self.assertEqual(told[42], [0, 841])

    def test_a_dense_graph(self):
        edges = [(a, b) for a in range(7) for b in range(7, 9)]
        calls = [begin()] * 24 + building(16, edges) + [tutte(1, 1), colourings(3)] * 10
        self.assert_in_time(calls)

    def test_60_times_points(self):
        self.assertEqual(self.assert_in_time([begin()] + [points(16)] * 59), [[0]] * 60)


if __name__ == "__main__":
    unittest.main()
