"""The call order: its four answers, games that were made in different ways, and who wins (promises 1, 2 and 3)."""

import functools
import itertools
import unittest

from tests.helper import (Line, at_most, each, firsts, heap, last, lefts_of, make, minus, number, order, read, rights_of,
                          room, sum_of, text_after, times, write)

GREATEST = 2 ** 63 - 1
SAME, ABOVE, BELOW, NEITHER = [0], [1], [2], [3]


@functools.cache
def left_wins_first(x):
    """Whether left wins x who moves first, by going through all moves."""
    return any(not right_wins_first(y) for y in lefts_of(x))


@functools.cache
def right_wins_first(x):
    return any(not left_wins_first(y) for y in rights_of(x))


# Lines that put a game into slot 9 and leave 0 in slot 10.
LINES = ([[number(9, m, k)] for m in range(-5, 6) for k in range(3)] + [[heap(9, n)] for n in range(6)]
         + [[heap(0, 1), make(9, [1], [0])], [heap(0, 1), make(9, [0], [1])], [number(0, 1), make(9, [0], [1])],
            [number(0, 1), minus(1, 0), make(9, [0], [1])], [number(0, 1), minus(1, 0), make(9, [1], [0])],
            [heap(0, 1), make(1, [2], [0]), sum_of(9, 1, 0)], [heap(0, 1), make(1, [2], [0]), times(9, 1, -3)],
            [number(0, 3), number(1, 1), make(9, [0], [1])], [number(0, -3), number(1, -7), make(9, [0], [1])],
            [heap(0, 2), heap(1, 1), make(9, [0], [1])], [heap(0, 2), number(1, -1), make(9, [2, 0], [0, 1])]])


class FourAnswers(unittest.TestCase):
    def test_of_new_slots(self):
        self.assertEqual(each([order(0, 0), order(0, 15), order(15, 0)]), [SAME] * 3)

    def test_numbers(self):
        for m, n in itertools.product(range(-4, 5), range(-4, 5)):
            asked = SAME if m == n else ABOVE if m > n else BELOW
            self.assertEqual(last([number(0, m, 1), number(1, n, 1), order(0, 1)]), asked, (m, n))
        self.assertEqual(last([number(0, GREATEST, 62), number(1, 2), order(0, 1)]), BELOW)
        self.assertEqual(last([number(0, -GREATEST - 1, 62), number(1, -2), order(0, 1)]), SAME)

    def test_heaps(self):
        for m, n in itertools.product(range(5), range(5)):
            self.assertEqual(last([heap(0, m), heap(1, n), order(0, 1)]), SAME if m == n else NEITHER)

    def test_numbers_and_heaps(self):
        for m, asked in ((-1, BELOW), (0, NEITHER), (1, ABOVE)):
            self.assertEqual(last([number(0, m, 20), heap(1, 3), order(0, 1)]), asked)

    def test_up(self):
        games = [heap(0, 1), make(1, [2], [0]), number(3, 1, 30), minus(4, 1), sum_of(5, 1, 1)]
        self.assertEqual(each(games + [order(1, 2), order(2, 1), order(1, 0), order(0, 1), order(1, 3), order(3, 1),
                                       order(4, 2), order(5, 0), order(0, 5), order(5, 1), order(4, 5)])[5:],
                         [ABOVE, BELOW, NEITHER, NEITHER, BELOW, ABOVE, BELOW, ABOVE, BELOW, ABOVE, BELOW])

    def test_switches(self):
        # {3 | 1} is above 0, neither above nor below 1, 2 and 3, and below 4.
        games = [number(0, 3), number(1, 1), make(2, [0], [1])]
        for n, asked in ((0, ABOVE), (1, NEITHER), (2, NEITHER), (3, NEITHER), (4, BELOW)):
            self.assertEqual(last(games + [number(3, n), order(2, 3)]), asked, n)

    def test_all_pairs_as_the_model_says(self):
        forms = [Line(line).form(9) for line in LINES]
        texts = [text_after(line, 9) for line in LINES]
        seen = []
        for i, x in enumerate(forms):
            line = Line([read(0, texts[i])])
            for j, y in enumerate(forms):
                self.assertEqual(line.call(read(1, texts[j])), 0)
                asked = {(True, True): SAME, (False, True): ABOVE, (True, False): BELOW,
                         (False, False): NEITHER}[at_most(x, y), at_most(y, x)]
                self.assertEqual(line.ask(order(0, 1)), asked, (LINES[i], LINES[j]))
                seen += asked
        self.assertTrue(all(seen.count(one) > 50 for one in range(4)))


class TheSameMadeInOtherWays(unittest.TestCase):
    WAYS = (([number(0, 6, 2)], [number(4, 1), number(5, 2), make(0, [4], [5])], [number(4, 1, 1), times(0, 4, 3)],
             [number(4, -3, 1), minus(0, 4)]),
            ([heap(0, 3)], [heap(4, 1), heap(5, 2), sum_of(0, 4, 5)], [heap(4, 3), times(0, 4, -9)],
             [heap(4, 1), heap(5, 2), heap(6, 7), make(0, [3, 4, 5, 6], [6, 5, 4, 3])]),
            ([], [heap(4, 9), sum_of(0, 4, 4)], [number(4, -2), number(5, 7), make(0, [4], [5])],
             [heap(4, 1), make(0, [4], [4])], [number(4, 9, 1), minus(5, 4), sum_of(0, 4, 5)]))

    def test_they_are_worth_the_same(self):
        for ways in self.WAYS:
            for first, second in itertools.product(ways, ways):
                clear = [number(slot, 0) for slot in range(4, 7)]
                moved = [times(1, 0, 1), number(0, 0)]
                self.assertEqual(last(first + moved + clear + second + [order(0, 1)]), SAME)

    def test_all_else_is_answered_the_same(self):
        for ways in self.WAYS:
            clear = [number(slot, 0) for slot in range(4, 7)]
            asked = [order(0, 1), order(1, 0), [8, 0], room(), write(0), [6, 2, 0, 0, 0], write(2), [6, 2, 0, 1, 9]]
            given = [each(way + clear + asked)[-len(asked):] for way in ways]
            self.assertEqual(given, given[:1] * len(given))


class SumsAndTheOrder(unittest.TestCase):
    def test_adding_the_same_keeps_the_order(self):
        texts = [text_after(line, 9) for line in LINES[::4]]
        for a, b in itertools.product(texts, texts):
            for c in texts[::4]:
                line = [read(0, a), read(1, b), read(2, c), sum_of(3, 0, 2), sum_of(4, 1, 2), order(0, 1), order(3, 4)]
                given = each(line)
                self.assertEqual(given[:5], [[0]] * 5)
                self.assertEqual(given[5], given[6])

    def test_minus_turns_the_order(self):
        texts = [text_after(line, 9) for line in LINES[::3]]
        for a, b in itertools.product(texts, texts):
            given = each([read(0, a), read(1, b), minus(2, 0), minus(3, 1), order(0, 1), order(3, 2)])
            self.assertEqual(given[4], given[5])

    def test_a_less_a_is_0(self):
        for line in LINES:
            self.assertEqual(last(line + [minus(0, 9), sum_of(1, 9, 0), order(1, 10)]), SAME, line)

    def test_a_and_b_is_b_and_a(self):
        texts = [text_after(line, 9) for line in LINES[::3]]
        for a, b in itertools.combinations(texts, 2):
            self.assertEqual(last([read(0, a), read(1, b), sum_of(2, 0, 1), sum_of(3, 1, 0), order(2, 3)]), SAME)

    def test_order_is_who_wins_the_difference(self):
        texts = [text_after(line, 9) for line in LINES[::4]]
        for a, b in itertools.product(texts, texts):
            given = each([read(0, a), read(1, b), order(0, 1), minus(2, 1), sum_of(3, 0, 2), order(3, 9)])
            self.assertEqual(given[2], given[5])


class WhoWins(unittest.TestCase):
    def test_0_against_heaps_and_numbers(self):
        self.assertEqual(last([heap(0, 4), order(1, 0)]), NEITHER)
        self.assertEqual(last([heap(0, 4), order(0, 1)]), NEITHER)
        self.assertEqual(last([heap(0, 0), order(0, 1)]), SAME)
        self.assertEqual(each([number(0, 1, 62), order(0, 1), order(1, 0)])[1:], [ABOVE, BELOW])
        self.assertEqual(each([number(0, -1, 62), order(0, 1), order(1, 0)])[1:], [BELOW, ABOVE])

    def test_by_going_through_all_moves(self):
        who_wins = {(True, False): ABOVE, (False, True): BELOW, (False, False): SAME, (True, True): NEITHER}
        seen = []
        for line in LINES:
            form = Line(line).form(9)
            asked = who_wins[left_wins_first(form), right_wins_first(form)]
            self.assertEqual(last(line + [order(9, 10)]), asked, line)
            seen += asked
        self.assertTrue(all(seen.count(one) >= 4 for one in range(4)))


class Refusals(unittest.TestCase):
    def test_slots_that_there_aren_t(self):
        for wrong in (16, 99, GREATEST):
            self.assertEqual(firsts([order(wrong, 0), order(0, wrong), order(wrong, wrong)]), [-1] * 3)

    def test_order_changes_nothing(self):
        line = Line(LINES[-1])
        before = line.forms(), line.ask(room())
        for a, b in itertools.product(range(17), range(17)):
            line.ask(order(a, b))
        self.assertEqual((line.forms(), line.ask(room())), before)

    def test_order_needs_no_room(self):
        self.assertEqual(each([number(0, 95), order(0, 1), order(1, 0), heap(1, 1)]), [[0], ABOVE, BELOW, [-5]])


if __name__ == "__main__":
    unittest.main()
