"""What is handed in and given back, that nothing is kept, and that depth is gone through by loops."""

import inspect
import sys
import unittest

from gameworth.games import answers
from tests.helper import Model, heap, joined, make, minus, number, sum_of, times

MIXED = joined([number(0, -3, 1), heap(1, 5), make(2, [0, 1, 1], [3]), make(2, [0] * 100, [16] * 100), minus(3, 2),
                sum_of(4, 2, 1), times(5, 2, -3), times(5, 2, 40), number(99, 1), sum_of(0, 0, 0), make(6, [], [])])


class HandedIn(unittest.TestCase):
    def test_the_list_is_the_same_afterwards(self):
        line = list(MIXED)
        answers(line)
        self.assertEqual(line, MIXED)

    def test_the_list_is_never_changed_for_a_while_either(self):
        class Unchanging(list):
            def refuse(self, *given):
                raise AssertionError("the list was changed")

            append = extend = insert = pop = remove = clear = sort = reverse = refuse
            __setitem__ = __delitem__ = __iadd__ = __imul__ = refuse

        self.assertEqual(answers(Unchanging(MIXED)), answers(list(MIXED)))

    def test_a_list_of_whole_numbers_is_given_back(self):
        given = answers(list(MIXED))
        self.assertIs(type(given), list)
        self.assertEqual({type(one) for one in given}, {int})
        self.assertEqual(given, [1, 0, 1, 0, 1, 0, 1, -1, 1, 0, 1, 0, 1, 0, 1, -2, 1, -1, 1, 0, 1, 0])

    def test_the_name_of_the_argument(self):
        self.assertEqual(list(inspect.signature(answers).parameters), ["calls"])
        self.assertEqual(answers(calls=[1, 0, 3]), [1, 0])


class NothingIsKept(unittest.TestCase):
    def test_a_second_time_is_as_the_first(self):
        self.assertEqual(answers(list(MIXED)), answers(list(MIXED)))

    def test_the_slots_are_new_each_time(self):
        full = number(0, 95)
        probe = heap(1, 3)
        self.assertEqual(answers(full + probe), [1, 0, 1, -5])
        self.assertEqual(answers(probe), [1, 0])
        self.assertEqual(answers(full), [1, 0])
        self.assertEqual(answers(minus(1, 0) + probe), [1, 0, 1, 0])

    def test_what_is_given_back_is_not_kept(self):
        first = answers(list(MIXED))
        first.append(7)
        first[0] = 9
        self.assertEqual(answers(list(MIXED)), [1] + first[1:-1])


class DepthByLoops(unittest.TestCase):
    def answers_in_few_calls(self, line):
        depth = len(inspect.stack(0))
        limit = sys.getrecursionlimit()
        sys.setrecursionlimit(depth + 30)
        try:
            return answers(line)
        finally:
            sys.setrecursionlimit(limit)

    def test_deep_games(self):
        line = [number(0, 47), minus(1, 0), minus(0, 1), heap(1, 0), number(1, 48), sum_of(1, 0, 1), times(1, 1, -1)]
        self.assertEqual(self.answers_in_few_calls(joined(line)), [1, 0] * 6 + [1, -5])
        line = [make(0, [0], [])] * 95 + [make(0, [0], [])]
        self.assertEqual(self.answers_in_few_calls(joined(line)), [1, 0] * 95 + [1, -5])
        self.assertEqual(self.answers_in_few_calls(joined([number(0, 1, 62), heap(1, 16), number(2, 2 ** 63 - 1)])),
                         [1, 0, 1, 0, 1, -5])

    def test_many_calls_and_long_rows(self):
        line = [make(call % 16, [call % 7] * 32, [call % 5] * 5) for call in range(390)]
        self.assertLessEqual(len(joined(line)), 16000)
        model = Model()
        asked = [model.call(call) for call in line]
        self.assertEqual(self.answers_in_few_calls(joined(line))[1::2], asked)


if __name__ == "__main__":
    unittest.main()
