"""The edges that the document names, the refusals -1 and -2, and which refusal comes first."""

import unittest

from tests.helper import (ZERO, Line, firsts, fraction, heap, make, minus, number, pile, sum_of, times, whole)

GREATEST = 2 ** 63 - 1
LOWEST = -(2 ** 63)


class SlotsAndRows(unittest.TestCase):
    def test_slot_15_is_there(self):
        calls = [number(15, 1), heap(15, 1), make(15, [15], [15]), minus(15, 15), sum_of(15, 15, 15), times(15, 15, 2)]
        self.assertEqual(firsts(calls), [0] * 6)

    def test_slot_16_is_refused_at_every_place(self):
        for slot in (16, 17, 100, GREATEST):
            calls = [number(slot, 1), heap(slot, 1), make(slot, [], []), make(0, [slot], []), make(0, [], [slot]),
                     make(0, [1, 2, slot], [3]), make(0, [1], [slot, 2]), minus(slot, 0), minus(0, slot),
                     sum_of(slot, 0, 0), sum_of(0, slot, 0), sum_of(0, 0, slot), times(slot, 0, 1), times(0, slot, 1)]
            self.assertEqual(firsts(calls), [-1] * len(calls))

    def test_rows_of_32_and_of_more(self):
        for lefts, rights, asked in ((0, 0, 0), (32, 0, 0), (0, 32, 0), (32, 32, 0), (33, 0, -1), (0, 33, -1),
                                     (33, 33, -1), (100, 0, -1), (0, 100, -1), (32, 100, -1), (100, 100, -1)):
            line = Line([make(3, [1] * lefts, [2] * rights)])
            self.assertEqual(line.given, [asked], (lefts, rights))

    def test_a_long_row_of_many_slots_counts_all_of_them(self):
        line = Line([heap(slot, slot % 8) for slot in range(16)])
        row = [slot for slot in range(16)] * 2
        self.assertEqual(line.call(make(9, row, row)), 0)
        self.assertEqual(line.form(9), pile(8))
        self.assertEqual(line.call(make(10, [9] * 31 + [0], [9] * 31 + [0])), 0)
        self.assertEqual(line.form(10), pile(1))

    def test_calls_behind_a_refused_make_are_read_at_their_place(self):
        self.assertEqual(firsts([make(0, [16] * 100, [1] * 100), number(0, 1, 63), make(0, [1] * 33, []), heap(1, 2)]),
                         [-1, -2, -1, 0])


class NumberEdges(unittest.TestCase):
    def test_k_62_and_63(self):
        line = Line([number(0, 1, 62), number(1, 1, 63), number(1, 0, 63), number(1, 1, GREATEST)])
        self.assertEqual(line.given, [0, -2, -2, -2])
        self.assertEqual(line.form(0), fraction(1, 62))
        self.assertEqual(line.form(1), ZERO)
        self.assertEqual(Line([number(0, -1, 62)]).form(0), fraction(-1, 62))
        self.assertEqual(Line([number(0, 0, 62)]).form(0), ZERO)

    def test_m_needn_t_be_in_least_terms(self):
        for m, k, asked in ((6, 1, whole(3)), (-6, 1, whole(-3)), (12, 3, fraction(3, 1)), (-12, 3, fraction(-3, 1)),
                            (2 ** 62, 62, whole(1)), (2 ** 61, 62, fraction(1, 1)), (3 * 2 ** 40, 43, fraction(3, 3)),
                            (-(2 ** 62), 62, whole(-1)), (95 * 2 ** 56, 56, whole(95))):
            line = Line([number(0, m, k)])
            self.assertEqual(line.given, [0], (m, k))
            self.assertEqual(line.form(0), asked, (m, k))

    def test_m_at_both_ends_of_its_range(self):
        line = Line([number(0, LOWEST, 62), number(1, GREATEST, 62)])
        self.assertEqual(line.given, [0, 0])
        self.assertEqual(line.form(0), whole(-2))
        self.assertEqual(line.form(1), fraction(GREATEST, 62))
        self.assertEqual(firsts([number(0, LOWEST, 0), number(0, GREATEST, 0), number(0, LOWEST, 57),
                                 number(0, LOWEST, 56), number(0, GREATEST, 50)]), [-5, -5, 0, -5, -5])

    def test_heap_at_the_end_of_its_range(self):
        self.assertEqual(firsts([heap(0, 0), heap(0, GREATEST), heap(0, 1)]), [0, -5, 0])


class TimesEdges(unittest.TestCase):
    def test_n_at_its_edges(self):
        for n, asked in ((0, 0), (1, 0), (-1, 0), (16, 0), (-16, 0), (17, -2), (-17, -2), (GREATEST, -2), (LOWEST, -2)):
            line = Line([number(0, 1, 1), number(1, 7), times(1, 0, n)])
            self.assertEqual(line.given, [0, 0, asked], n)
            self.assertEqual(line.form(1), fraction(n, 1) if asked == 0 else whole(7), n)

    def test_0_times_anything_is_0(self):
        line = Line([number(0, 95), times(0, 0, 0)])
        self.assertEqual(line.given, [0, 0])
        self.assertEqual(line.form(0), ZERO)

    def test_1_time_is_the_game(self):
        line = Line([number(0, 95), times(1, 0, 1)])
        self.assertEqual(line.given, [0, 0])
        self.assertEqual(line.form(1), whole(95))


class WhichRefusalComesFirst(unittest.TestCase):
    def test_a_wrong_slot_before_a_wrong_number(self):
        self.assertEqual(firsts([number(16, 1, 63), times(16, 0, 17), times(0, 16, 17), times(0, 16, LOWEST)]), [-1] * 4)

    def test_a_wrong_slot_before_no_room(self):
        full = number(0, 95)
        self.assertEqual(firsts([full, number(16, 96), heap(16, 1), heap(16, GREATEST), make(16, [], [0]), minus(16, 0),
                                 sum_of(16, 0, 0), times(16, 0, 2), times(16, 0, -1)]), [0] + [-1] * 8)
        self.assertEqual(firsts([full, make(1, [], [0] * 33), make(1, [0] * 33, [0]), make(1, [16], [0])]), [0] + [-1] * 3)

    def test_a_wrong_number_before_no_room(self):
        self.assertEqual(firsts([number(0, 95), number(1, -1, 63), number(1, LOWEST, 63), times(1, 0, 17),
                                 times(1, 0, -17)]), [0] + [-2] * 4)


if __name__ == "__main__":
    unittest.main()
