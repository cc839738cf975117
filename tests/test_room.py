"""When there's no room: to the part and to the option, and that a refused call leaves the object as it was."""

import unittest

from tests.helper import (Line, firsts, fraction, heap, make, minus, number, parts_of, pile, plus, sum_of, times,
                          whole)


def sums_of_parts(x, y):
    parts = set()
    for p in parts_of(x):
        for q in parts_of(y):
            parts |= parts_of(plus(p, q))
    return parts


class Parts(unittest.TestCase):
    def test_96_parts_and_one_more(self):
        self.assertEqual(firsts([number(0, 96), number(0, 95)]), [-5, 0])
        self.assertEqual(firsts([number(0, -96), number(0, -95)]), [-5, 0])
        self.assertEqual(firsts([number(0, 38 * 2 ** 57 + 1, 57), number(0, 37 * 2 ** 57 + 1, 57)]), [-5, 0])
        self.assertEqual(firsts([number(0, -38 * 2 ** 57 - 1, 57), number(0, -37 * 2 ** 57 - 1, 57)]), [-5, 0])

    def test_parts_of_two_games_are_counted_once(self):
        self.assertEqual(firsts([number(0, 95), number(1, 95), number(2, 60), heap(3, 0), number(4, -1)]),
                         [0, 0, 0, 0, -5])
        self.assertEqual(firsts([number(0, -40), number(1, 56), number(1, 55)]), [0, -5, 0])
        self.assertEqual(firsts([number(0, 94), heap(1, 1), heap(2, 2)]), [0, 0, -5])

    def test_the_slot_that_is_written_over_counts(self):
        self.assertEqual(firsts([number(0, 95), number(0, -1), number(0, 94), number(0, -1)]), [0, -5, 0, 0])
        self.assertEqual(firsts([number(0, 48), minus(0, 0), number(0, 47), minus(0, 0)]), [0, -5, 0, 0])
        self.assertEqual(firsts([number(0, 95), heap(0, 1), number(0, 0), heap(0, 1)]), [0, -5, 0, 0])

    def test_make_needs_room_for_one_part_or_none(self):
        self.assertEqual(firsts([number(0, 94), make(1, [0], [0]), make(2, [0], [2])]), [0, 0, -5])
        self.assertEqual(firsts([number(0, 95), make(1, [0], []), make(1, [2], [0]), make(1, [0], [0])]), [0, -5, 0, -5])
        self.assertEqual(firsts([number(0, 94), make(0, [0], []), make(0, [0], [])]), [0, 0, -5])

    def test_minus(self):
        self.assertEqual(firsts([number(0, 48), minus(1, 0)]), [0, -5])
        self.assertEqual(firsts([number(0, 47), minus(1, 0), heap(2, 1), heap(2, 2)]), [0, 0, 0, -5])
        self.assertEqual(firsts([heap(0, 31), minus(1, 0)]), [0, 0])


class Options(unittest.TestCase):
    def test_1024_options_and_one_more(self):
        self.assertEqual(firsts([heap(0, 32), heap(0, 31), number(1, 33), number(1, 32)]), [-5, 0, -5, 0])
        self.assertEqual(firsts([number(1, 32), heap(0, 31)]), [0, 0])
        self.assertEqual(firsts([number(1, 33), heap(0, 31), heap(0, 30)]), [0, -5, 0])

    def test_both_rows_of_all_parts_count(self):
        # The heap has 992 options in all, a whole number n has n; slot 2 has the heap of 1 and slot 5 has 0.
        for n, made, asked in ((30, [make(4, [1], [5])], 0), (31, [make(4, [1], [5])], -5),
                               (29, [make(4, [1], [5, 2])], 0), (30, [make(4, [1], [5, 2])], -5),
                               (28, [make(4, [1], [5]), make(6, [1], [2])], 0),
                               (29, [make(4, [1], [5]), make(6, [1], [2])], -5),
                               (28, [make(4, [1], [5]), make(6, [1], [5, 2])], -5)):
            given = firsts([heap(0, 31), number(1, n), heap(2, 1)] + made)
            self.assertEqual(given[:-1], [0] * (2 + len(made)))
            self.assertEqual(given[-1], asked, (n, made))

    def test_the_form_s_options_count_and_not_those_handed_in(self):
        row = list(range(16)) * 2
        self.assertEqual(firsts([heap(0, 31), number(1, 31), make(2, row, [])]), [0, 0, 0])
        self.assertEqual(firsts([heap(0, 31), number(1, 32), make(2, row, [])]), [0, 0, -5])
        self.assertEqual(firsts([heap(0, 31), number(1, 32), make(2, [2], [2])]), [0, 0, 0])


class WhatSumComesTo(unittest.TestCase):
    def assert_needs(self, games, call, parts):
        """The call needs just these parts and the slots': whole numbers below 0 fill the rest to the part."""
        line = Line(games)
        for slot in range(16):
            parts = parts | parts_of(line.form(slot))
        below = [n for n in range(1, 96) if whole(-n) in parts]
        fill = 96 - len(parts) + len(below)
        self.assertEqual(Line(games + [number(15, -fill), call]).given[-2:], [0, 0])
        self.assertEqual(Line(games + [number(15, -fill - 1), call]).given[-2:], [0, -5])

    def test_the_sums_of_all_parts(self):
        for first, second, x, y in ((number(0, 3, 2), number(1, 5, 3), fraction(3, 2), fraction(5, 3)),
                                    (heap(0, 5), number(1, 7, 1), pile(5), fraction(7, 1)),
                                    (number(0, 1, 5), number(1, -1, 5), fraction(1, 5), fraction(-1, 5)),
                                    (heap(0, 4), heap(1, 3), pile(4), pile(3))):
            self.assert_needs([first, second], sum_of(2, 0, 1), sums_of_parts(x, y))

    def test_a_sum_that_is_0_can_still_come_to_too_much(self):
        self.assertEqual(firsts([number(0, 1, 9), number(1, -1, 9), sum_of(2, 0, 1)]), [0, 0, 0])
        self.assertEqual(firsts([number(0, 1, 10), number(1, -1, 10), sum_of(2, 0, 1)]), [0, 0, -5])
        self.assertEqual(len(sums_of_parts(fraction(1, 9), fraction(-1, 9))), 93)
        self.assertEqual(len(sums_of_parts(fraction(1, 10), fraction(-1, 10))), 113)

    def test_heaps_by_options(self):
        self.assertEqual(firsts([heap(0, 31), heap(1, 16), sum_of(2, 0, 1), number(3, 32)]), [0] * 4)
        # The parts of 16 and 15 have a sum of 31, and so all that the heap of 31 has.
        self.assertEqual(firsts([heap(0, 16), heap(1, 15), number(2, 32), sum_of(3, 0, 1)]), [0] * 4)
        self.assertEqual(firsts([heap(0, 16), heap(1, 15), number(2, 33), sum_of(3, 0, 1)]), [0, 0, 0, -5])
        # 16 and 18 make 2, but 17 and 14 are among their parts.
        self.assertEqual(firsts([heap(0, 16), heap(1, 18), number(2, 33), sum_of(3, 0, 1), heap(3, 2)]),
                         [0, 0, 0, -5, 0])

    def test_numbers_to_the_part(self):
        self.assertEqual(firsts([number(0, 47), number(1, 48), sum_of(2, 0, 1)]), [0, 0, 0])
        self.assertEqual(firsts([number(0, 48), sum_of(2, 0, 0)]), [0, -5])
        self.assertEqual(firsts([number(0, 95), sum_of(1, 0, 2), sum_of(2, 1, 0)]), [0, 0, -5])

    def test_times_needs_what_each_sum_comes_to(self):
        for n in (2, 3, 5, -2, -3):
            one = fraction(3 if n > 0 else -3, 4)
            total = one
            worst = set()
            for _ in range(abs(n) - 1):
                parts = sums_of_parts(total, one)
                worst = max(worst, parts, key=len)
                total = plus(total, one)
            self.assert_needs([number(0, 3, 4)], times(2, 0, n), worst)


class TimesSumBySum(unittest.TestCase):
    def test_what_the_sums_before_came_to_is_not_counted(self):
        one = fraction(15, 4)
        total = one
        all_parts = set(parts_of(one))
        for _ in range(15):
            all_parts |= sums_of_parts(total, one)
            total = plus(total, one)
        self.assertEqual(len(all_parts), 182)
        line = Line([number(0, 15, 4), times(1, 0, 16)])
        self.assertEqual(line.given, [0, 0])
        self.assertEqual(line.form(1), whole(15))

    def test_no_room_in_the_middle_though_the_result_would_fit(self):
        self.assertEqual(firsts([number(0, 1, 13), times(1, 0, 2), number(1, 1, 12)]), [0, -5, 0])
        self.assertEqual(firsts([number(0, 1, 12), times(1, 0, 2), times(1, 0, 16), number(1, 1, 8)]), [0, 0, -5, 0])
        self.assertEqual(firsts([number(0, 1, 10), times(1, 0, 16), times(2, 0, -16)]), [0, 0, -5])

    def test_whole_numbers_to_the_part(self):
        self.assertEqual(firsts([number(0, 5), times(1, 0, 16), times(0, 1, 1), times(1, 1, 2)]), [0, 0, 0, -5])
        self.assertEqual(firsts([number(0, 6), times(1, 0, 15), times(1, 0, 16)]), [0, 0, -5])
        self.assertEqual(firsts([number(0, 19), times(1, 0, 5), times(1, 0, 6)]), [0, 0, -5])

    def test_minus_one_time_needs_room_for_minus(self):
        self.assertEqual(firsts([number(0, 48), times(1, 0, -1), times(1, 0, 1), times(1, 0, 0)]), [0, -5, 0, 0])
        self.assertEqual(firsts([number(0, 47), times(1, 0, -1), times(2, 0, -2)]), [0, 0, -5])

    def test_one_time_and_none_need_no_room(self):
        self.assertEqual(firsts([number(0, 95), times(1, 0, 1), times(2, 0, 0), times(2, 3, 16)]), [0] * 4)

    def test_heaps(self):
        self.assertEqual(firsts([heap(0, 31), number(1, 32), times(2, 0, 16), times(3, 0, -15), times(1, 1, -1)]),
                         [0, 0, 0, 0, -5])


class RefusedCalls(unittest.TestCase):
    REFUSED = (number(16, 1), number(0, 1, 63), number(0, 90), heap(2, 30), heap(2, 2 ** 63 - 1),
               make(3, [0] * 33, []), make(3, [16], [0]), minus(3, 16), minus(3, 0), sum_of(3, 0, 0), sum_of(0, 0, 2),
               times(0, 0, 17), times(0, 0, 16), times(2, 0, -2))
    GAMES = [number(0, 50), number(1, -20, 0), heap(2, 3)]

    def test_each_is_refused_and_changes_no_slot(self):
        for call in self.REFUSED:
            line = Line(self.GAMES)
            before = line.forms()
            self.assertLess(line.call(call), 0, call)
            self.assertEqual(line.forms(), before, call)

    def test_they_take_no_room(self):
        # 50 and 20 and 3 parts and 0: room for 22 more.
        for call in self.REFUSED:
            probes = [number(3, 72), number(4, 73), number(4, -21)]
            self.assertEqual(firsts(self.GAMES + [call] * 5 + probes)[-3:], [0, -5, -5], call)

    def test_what_was_written_over_takes_no_room_any_more(self):
        line = [number(0, 95), number(0, 0), number(0, -95), heap(0, 0), heap(0, 31), number(0, 2), number(1, 60, 1)]
        self.assertEqual(firsts(line + [number(0, 95)]), [0] * 8)

    def test_what_a_sum_came_to_takes_no_room_behind_it(self):
        line = [number(0, 1, 9), number(1, -1, 9), sum_of(2, 0, 1)]
        self.assertEqual(len(parts_of(fraction(1, 9)) | parts_of(fraction(-1, 9)) | parts_of(whole(76))), 96)
        self.assertEqual(firsts(line + [number(3, 76), number(4, 77)]), [0, 0, 0, 0, -5])


if __name__ == "__main__":
    unittest.main()
