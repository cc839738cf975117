"""What is handed in and given back, that nothing is kept, and that depth is gone through by loops."""

import inspect
import sys
import unittest

from gameworth.games import answers
from tests.helper import (Model, bytes_of, heap, joined, make, minus, number, option, order, pile, read, room, shape,
                          sum_of, text_of_rows, times, whole, write)

MIXED = joined([number(0, -3, 1), heap(1, 5), make(2, [0, 1, 1], [3]), make(2, [0] * 100, [16] * 100), minus(3, 2),
                sum_of(4, 2, 1), times(5, 2, -3), times(5, 2, 40), number(99, 1), sum_of(0, 0, 0), make(6, [], []),
                heap(7, 1), option(8, 1, 0, 1), option(8, 1, 0, 5), option(8, 1, 2, 0), order(8, 7), order(0, 7),
                shape(8), shape(16), write(8), write(16), read(9, [0x47, 2, 0, 1, 0, 0, 0, 1, 0, 0, 0, 0, 0]), write(9),
                read(9, [0x47, 2, 0]), read(99, []), number(0, 95), read(0, [0x47, 1, 0, 0, 0, 0, 0]), order(0, 9)])
GIVEN = [1, 0, 1, 0, 1, 0, 1, -1, 1, 0, 1, 0, 1, 0, 1, -2, 1, -1, 1, 0, 1, 0,
         1, 0, 1, 0, 1, -2, 1, -1, 1, 0, 1, 2,
         6, 0, 2, 2, 1, 1, 1, 1, -1, 17, 0, 15, 0x47, 2, 0, 1, 0, 1, 0, 1, 0, 1, 0, 0, 0, 0, 0, 1, -1,
         1, 0, 15, 0, 13, 0x47, 2, 0, 1, 0, 0, 0, 1, 0, 0, 0, 0, 0,
         1, -3, 1, -1, 1, -5, 1, 0, 1, 2]


class HandedIn(unittest.TestCase):
    def test_the_list_is_the_same_afterwards(self):
        line = list(MIXED)
        answers(line)
        self.assertEqual(line, MIXED)

    def test_the_list_is_never_changed_for_a_while_either(self):
        class Unchanging(list):
            def refuse(self, *given):
                raise AssertionError("the list was changed")

            append = extend = insert = pop = remove = clear = sort = reverse = refuse
            __setitem__ = __delitem__ = __iadd__ = __imul__ = refuse

        self.assertEqual(answers(Unchanging(MIXED)), answers(list(MIXED)))

    def test_a_list_of_whole_numbers_is_given_back(self):
        given = answers(list(MIXED))
        self.assertIs(type(given), list)
        self.assertEqual({type(one) for one in given}, {int})
        self.assertEqual(given, GIVEN)

    def test_how_many_numbers_are_answered_stands_before_them(self):
        self.assertEqual(answers(room()), [3, 0, 1, 0])
        self.assertEqual(answers(shape(15)), [6, 0, 1, 0, 0, 0, 0])
        self.assertEqual(answers(write(15)), [9, 0, 7, 0x47, 1, 0, 0, 0, 0, 0])
        self.assertEqual(answers(order(15, 14)), [1, 0])
        self.assertEqual(answers(option(0, 0, 0, 0)), [1, -2])
        self.assertEqual(answers(read(0, [])), [1, -3])
        self.assertEqual(answers(read(0, [0x47, 1, 0, 0, 0, 0, 0])), [1, 0])
        self.assertEqual(answers(shape(16) + write(16) + order(16, 0) + room()), [1, -1, 1, -1, 1, -1, 3, 0, 1, 0])

    def test_the_name_of_the_argument(self):
        self.assertEqual(list(inspect.signature(answers).parameters), ["calls"])
        self.assertEqual(answers(calls=[1, 0, 3]), [1, 0])


class NothingIsKept(unittest.TestCase):
    def test_a_second_time_is_as_the_first(self):
        self.assertEqual(answers(list(MIXED)), answers(list(MIXED)))

    def test_the_slots_are_new_each_time(self):
        full = number(0, 95)
        probe = heap(1, 3)
        self.assertEqual(answers(full + probe), [1, 0, 1, -5])
        self.assertEqual(answers(probe), [1, 0])
        self.assertEqual(answers(full), [1, 0])
        self.assertEqual(answers(minus(1, 0) + probe), [1, 0, 1, 0])

    def test_what_is_given_back_is_not_kept(self):
        first = answers(list(MIXED))
        first.append(7)
        first[0] = 9
        self.assertEqual(answers(list(MIXED)), [1] + first[1:-1])

    def test_what_one_line_refuses_or_reads_doesn_t_touch_the_next(self):
        star = bytes_of(pile(1))
        for line in (number(0, 95) + heap(1, 1), read(3, star), read(3, star[:-1]), number(0, 95) + read(1, star), MIXED):
            answers(list(line))
            self.assertEqual(answers(room() + write(3) + order(0, 3) + read(3, star) + room()),
                             [3, 0, 1, 0, 9, 0, 7, 0x47, 1, 0, 0, 0, 0, 0, 1, 0, 1, 0, 3, 0, 2, 2])


class DepthByLoops(unittest.TestCase):
    def answers_in_few_calls(self, line):
        depth = len(inspect.stack(0))
        limit = sys.getrecursionlimit()
        sys.setrecursionlimit(depth + 30)
        try:
            return answers(line)
        finally:
            sys.setrecursionlimit(limit)

    def test_deep_games(self):
        line = [number(0, 47), minus(1, 0), minus(0, 1), heap(1, 0), number(1, 48), sum_of(1, 0, 1), times(1, 1, -1)]
        self.assertEqual(self.answers_in_few_calls(joined(line)), [1, 0] * 6 + [1, -5])
        line = [make(0, [0], [])] * 95 + [make(0, [0], [])]
        self.assertEqual(self.answers_in_few_calls(joined(line)), [1, 0] * 95 + [1, -5])
        self.assertEqual(self.answers_in_few_calls(joined([number(0, 1, 62), heap(1, 16), number(2, 2 ** 63 - 1)])),
                         [1, 0, 1, 0, 1, -5])

    def test_deep_games_that_are_written_and_read(self):
        text = bytes_of(whole(95))
        line = [number(0, 95), write(0), shape(0), option(1, 0, 0, 0), order(0, 1), read(2, text), order(0, 2), room()]
        self.assertEqual(self.answers_in_few_calls(joined(line)),
                         [1, 0, 2 + len(text), 0, len(text)] + text
                         + [6, 0, 96, 95, 95, 1, 0, 1, 0, 1, 1, 1, 0, 1, 0, 3, 0, 96, 95])
        ring = text_of_rows([([(part + 1) % 96], []) for part in range(96)])
        self.assertEqual(self.answers_in_few_calls(read(0, ring) + read(0, bytes_of(pile(48))) + read(0, [0x47] * 5000)),
                         [1, -3, 1, -5, 1, -3])

    def test_many_calls_and_long_rows(self):
        line = [make(call % 16, [call % 7] * 32, [call % 5] * 5) for call in range(390)]
        self.assertLessEqual(len(joined(line)), 16000)
        model = Model()
        asked = [model.call(call) for call in line]
        self.assertEqual(self.answers_in_few_calls(joined(line))[1::2], asked)


if __name__ == "__main__":
    unittest.main()
