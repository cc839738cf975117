"""The calls at ordinary inputs, alone and several on one object."""

import unittest

from gameworth.games import answers
from tests.helper import (ZERO, Line, each, firsts, fraction, game, heap, joined, make, minus, negative, number, option,
                          order, pile, read, room, shape, sum_of, times, whole, write)

STAR = pile(1)
UP = game((ZERO,), (STAR,))


class EachCallAlone(unittest.TestCase):
    def test_each_answers_one_number_that_is_0(self):
        for call in (number(3, 5), heap(3, 5), make(3, [0, 1], [2]), minus(3, 0), sum_of(3, 0, 1), times(3, 0, 4)):
            self.assertEqual(answers(call), [1, 0], call)

    def test_those_that_tell_something(self):
        self.assertEqual([each([call])[0] for call in (option(3, 0, 1, 0), order(3, 4), shape(3), room(), write(3),
                                                       read(3, [0x47, 1, 0, 0, 0, 0, 0]), read(3, [0x47, 1, 0]))],
                         [[-2], [0], [0, 1, 0, 0, 0, 0], [0, 1, 0], [0, 7, 0x47, 1, 0, 0, 0, 0, 0], [0], [-3]])

    def test_before_the_first_call_all_slots_have_0(self):
        self.assertEqual(Line().forms(), [ZERO] * 16)

    def test_number(self):
        for m in range(-9, 10):
            for k in range(5):
                self.assertEqual(Line([number(2, m, k)]).form(2), fraction(m, k), (m, k))

    def test_heap(self):
        for n in range(12):
            self.assertEqual(Line([heap(2, n)]).form(2), pile(n))

    def test_make_from_empty_slots(self):
        self.assertEqual(Line([make(2, [], [])]).form(2), ZERO)
        self.assertEqual(Line([make(2, [5], [])]).form(2), whole(1))
        self.assertEqual(Line([make(2, [], [5])]).form(2), whole(-1))
        self.assertEqual(Line([make(2, [5], [6])]).form(2), STAR)


class SeveralCallsOnOneObject(unittest.TestCase):
    def test_up_and_what_is_made_of_it(self):
        line = Line([heap(0, 1), make(1, [2], [0]), minus(3, 1), sum_of(4, 1, 1), sum_of(5, 1, 0), times(6, 1, 2)])
        up_star = game((ZERO, STAR), (ZERO,))
        self.assertEqual(line.given, [0] * 6)
        self.assertEqual(line.form(1), UP)
        self.assertEqual(line.form(3), game((STAR,), (ZERO,)))
        self.assertEqual(line.form(4), game((ZERO,), (up_star,)))
        self.assertEqual(line.form(5), up_star)
        self.assertEqual(line.form(6), line.form(4))

    def test_make_takes_left_and_right_options_from_the_right_rows(self):
        line = Line([number(0, 2), number(1, -3), make(2, [0], [1]), make(3, [1], [0])])
        self.assertEqual(line.form(2), game((whole(2),), (whole(-3),)))
        self.assertEqual(line.form(3), ZERO)

    def test_minus_swaps_the_sides(self):
        line = Line([number(0, 2), number(1, -3), make(2, [0], [1]), minus(4, 2), minus(5, 0)])
        self.assertEqual(line.form(4), game((whole(3),), (whole(-2),)))
        self.assertEqual(line.form(5), whole(-2))

    def test_times_counts_from_below_0_to_above(self):
        for n in range(-5, 6):
            line = Line([number(0, 3, 1), times(1, 0, n), heap(2, 3), times(3, 2, n)])
            self.assertEqual(line.given, [0] * 4)
            self.assertEqual(line.form(1), fraction(3 * n, 1))
            self.assertEqual(line.form(3), pile(3 * (n % 2)))

    def test_times_of_a_game_that_is_no_number(self):
        line = Line([heap(0, 1), make(1, [2], [0]), times(3, 1, -2), minus(4, 1), sum_of(4, 4, 4), times(5, 1, -1)])
        self.assertEqual(line.form(3), line.form(4))
        self.assertEqual(line.form(5), negative(UP))

    def test_all_twelve_on_one_object(self):
        half = [0x47, 3, 0, 1, 0, 1, 0, 1, 0, 2, 0, 0, 0, 0, 0, 1, 0, 0, 0, 1, 0]
        self.assertEqual(each([number(0, 3), heap(1, 2), make(2, [0], [1]), minus(3, 2), sum_of(4, 2, 3), times(5, 0, -2),
                               option(6, 3, 1, 0), order(6, 5), shape(2), read(7, half), sum_of(8, 7, 7), write(7),
                               option(9, 7, 1, 0), order(8, 9), order(4, 10), order(1, 2), order(2, 1), room()]),
                         [[0]] * 7 + [[1], [0, 7, 11, 4, 1, 1], [0], [0], [0, 21] + half] + [[0]] * 3
                         + [[3], [3], [0, 15, 21]])

    def test_those_that_tell_something_write_no_slot(self):
        line = Line([number(slot, slot - 8, 1) for slot in range(16)])
        before = line.forms()
        for slot in range(16):
            for call in (order(slot, 3), shape(slot), room(), write(slot)):
                self.assertGreaterEqual(line.call(call), 0)
        self.assertEqual(line.forms(), before)

    def test_only_the_slot_that_is_written_changes(self):
        line = Line([number(slot, slot - 8, 1) for slot in range(16)])
        for call in (number(3, 1), heap(4, 2), make(5, [3], [4]), minus(6, 5), sum_of(7, 6, 4), times(8, 4, 3),
                     option(9, 3, 0, 0), read(10, [0x47, 2, 0, 0, 0, 1, 0, 1, 0, 0, 0, 0, 0])):
            before = line.forms()
            self.assertEqual(line.call(call), 0)
            after = line.forms()
            self.assertNotEqual(after[call[1]], before[call[1]])
            before[call[1]] = after[call[1]]
            self.assertEqual(after, before)

    def test_the_slot_written_may_be_one_that_is_read(self):
        line = Line([number(0, 3), number(1, 4), sum_of(0, 0, 1), sum_of(1, 0, 1), minus(1, 1), times(0, 0, 2)])
        self.assertEqual(line.given, [0] * 6)
        self.assertEqual(line.form(0), whole(14))
        self.assertEqual(line.form(1), whole(-11))
        self.assertEqual(Line([heap(0, 1), sum_of(0, 0, 0)]).form(0), ZERO)
        self.assertEqual(Line([heap(0, 1), make(0, [0, 1], [0, 1])]).form(0), pile(2))

    def test_answers_stand_in_the_order_of_the_calls(self):
        line = [number(16, 1), number(0, 1, 63), number(0, 96), number(0, 1), times(0, 0, 17), heap(99, 1)]
        self.assertEqual(firsts(line), [-1, -2, -5, 0, -2, -1])
        self.assertEqual(answers(joined(line)), [1, -1, 1, -2, 1, -5, 1, 0, 1, -2, 1, -1])

    def test_the_longest_line(self):
        self.assertEqual(firsts([sum_of(slot % 16, 0, 1) for slot in range(400)]), [0] * 400)


if __name__ == "__main__":
    unittest.main()
