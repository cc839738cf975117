"""The call write: the bytes of a form, with the parts numbered as they're come to first."""

import itertools
import unittest

from tests.helper import (Line, bytes_of, each, firsts, fraction, heap, last, make, minus, number, option, pile, read, room,
                          shape, sum_of, text_after, text_of_rows, times, whole, write)

GREATEST = 2 ** 63 - 1


class TheBytes(unittest.TestCase):
    def test_0(self):
        for slot in range(16):
            self.assertEqual(last([write(slot)]), [0, 7, 0x47, 1, 0, 0, 0, 0, 0])

    def test_1_and_minus_1(self):
        self.assertEqual(last([number(3, 1), write(3)]), [0, 13, 0x47, 2, 0, 1, 0, 0, 0, 1, 0, 0, 0, 0, 0])
        self.assertEqual(last([number(3, -1), write(3)]), [0, 13, 0x47, 2, 0, 0, 0, 1, 0, 1, 0, 0, 0, 0, 0])

    def test_the_heap_of_1(self):
        self.assertEqual(last([heap(3, 1), write(3)]), [0, 15, 0x47, 2, 0, 1, 0, 1, 0, 1, 0, 1, 0, 0, 0, 0, 0])

    def test_answers_has_a_count_before_it(self):
        self.assertEqual(last([write(0)])[1], 7)
        line = Line([number(0, 1)])
        self.assertEqual(line.ask(write(0))[:2], [0, 13])

    def test_numbers(self):
        # 1/2 has 0 and 1; 1 has 0, which was come to before.
        self.assertEqual(text_after([number(0, 1, 1)], 0), text_of_rows([([1], [2]), ([], []), ([1], [])]))
        self.assertEqual(text_after([number(0, -1, 1)], 0), text_of_rows([([1], [2]), ([], [2]), ([], [])]))
        self.assertEqual(text_after([number(0, 3)], 0), text_of_rows([([1], []), ([2], []), ([3], []), ([], [])]))
        # 5/4 has 1 and 3/2, 3/2 has 1 and 2.
        self.assertEqual(text_after([number(0, 5, 2)], 0),
                         text_of_rows([([1], [3]), ([2], []), ([], []), ([1], [4]), ([1], [])]))

    def test_heaps(self):
        self.assertEqual(text_after([heap(0, 2)], 0), text_of_rows([([1, 2], [1, 2]), ([], []), ([1], [1])]))
        self.assertEqual(text_after([heap(0, 3)], 0),
                         text_of_rows([([1, 2, 3], [1, 2, 3]), ([], []), ([1], [1]), ([1, 2], [1, 2])]))

    def test_all_that_an_option_leads_to_comes_before_the_next_option(self):
        # {2 | -1}: itself, 2, 1, 0, -1.
        self.assertEqual(text_after([number(0, 2), number(1, -1), make(2, [0], [1])], 2),
                         text_of_rows([([1], [4]), ([2], []), ([3], []), ([], []), ([], [3])]))

    def test_parts_that_are_come_to_again_on_another_way(self):
        # {{3 | 1} | 0}: itself, {3 | 1}, 3, 2, 1, 0, though 0 is an option of the game itself.
        self.assertEqual(text_after([number(0, 3), number(1, 1), make(2, [0], [1]), make(3, [2], [5])], 3),
                         text_of_rows([([1], [5]), ([2], [4]), ([3], []), ([4], []), ([5], []), ([], [])]))
        # {2, {3 | 0} | -1}: 1 and 0 are come to from 2, and 2 again from 3.
        games = [number(0, 2), number(1, 3), make(2, [1], [5]), number(3, -1), make(4, [0, 2], [3])]
        self.assertEqual(text_after(games, 4),
                         text_of_rows([([1, 4], [6]), ([2], []), ([3], []), ([], []), ([5], [3]), ([1], []), ([], [3])]))

    def test_an_option_gets_its_number_when_it_is_come_to_and_not_before(self):
        # {{1 | 0, *} | 0}: itself, {1 | 0, *}, 1, 0, *; 0 is come to by 1, though it waits as the game's right option.
        games = [number(0, 1), heap(1, 1), make(2, [0], [4, 1]), make(3, [2], [4])]
        self.assertEqual(text_after(games, 3),
                         text_of_rows([([1], [3]), ([2], [3, 4]), ([3], []), ([], []), ([3], [3])]))

    def test_two_bytes_lowest_first(self):
        # As many parts as there's room for: part i of 95 has the part i + 1 as its one option.
        rows = [([part + 1], []) for part in range(95)] + [([], [])]
        self.assertEqual(text_after([number(0, 95)], 0), text_of_rows(rows))
        self.assertEqual(text_after([number(0, 95)], 0)[:13], [0x47, 96, 0, 1, 0, 0, 0, 1, 0, 1, 0, 0, 0])
        self.assertEqual(len(text_after([number(0, 95)], 0)), 3 + 96 * 4 + 95 * 2)

    def test_as_many_options_as_there_s_room_for(self):
        text = text_after([heap(0, 31), number(1, 32)], 0)
        self.assertEqual(len(text), 3 + 32 * 4 + 992 * 2)
        self.assertEqual(text, bytes_of(pile(31)))
        games = [heap(0, 31), number(1, 30), make(2, [1], [0])]
        self.assertEqual(last(games + [room()]), [0, 63, 1024])
        self.assertEqual(len(text_after(games, 2)), 3 + 63 * 4 + 1024 * 2)

    def test_as_the_model_writes(self):
        for m, k in itertools.product(range(-7, 8), range(5)):
            self.assertEqual(text_after([number(2, m, k)], 2), bytes_of(fraction(m, k)))
        for n in range(10):
            self.assertEqual(text_after([heap(2, n)], 2), bytes_of(pile(n)))
        for n in range(-20, 20):
            self.assertEqual(text_after([number(2, n)], 2), bytes_of(whole(n)))


class EqualGames(unittest.TestCase):
    def test_they_give_equal_bytes(self):
        half = text_after([number(9, 1, 1)], 9)
        for line in ([number(9, 8, 4)], [number(0, 1), make(9, [1], [0])], [number(0, 1, 2), sum_of(9, 0, 0)],
                     [number(0, -1, 1), minus(9, 0)], [number(0, 1, 4), times(9, 0, 8)], [read(9, half)],
                     [number(0, 1), number(1, 1, 1), make(2, [1], [0]), option(9, 2, 0, 0)],
                     [number(0, -5), number(1, 1), make(9, [3, 0], [1])]):
            self.assertEqual(text_after(line, 9), half, line)
        star = text_after([heap(9, 1)], 9)
        for line in ([make(9, [0], [0])], [heap(0, 3), heap(1, 2), sum_of(9, 0, 1)], [heap(0, 1), times(9, 0, 15)],
                     [heap(0, 2), heap(1, 3), make(9, [0, 1, 2], [1, 2])], [heap(0, 8), option(9, 0, 1, 1)]):
            self.assertEqual(text_after(line, 9), star, line)

    def test_other_games_give_other_bytes(self):
        lines = ([[number(9, m, 2)] for m in range(-9, 10)] + [[heap(9, n)] for n in range(1, 8)]
                 + [[heap(0, 1), make(9, [1], [0])], [heap(0, 1), make(9, [0], [1])]])
        texts = [tuple(text_after(line, 9)) for line in lines]
        self.assertEqual(len(set(texts)), len(texts))

    def test_what_else_the_slots_hold_is_not_told(self):
        text = text_after([number(0, 3, 2)], 0)
        self.assertEqual(text_after([heap(5, 6), number(1, -7), number(0, 3, 2), number(2, 40)], 0), text)
        self.assertEqual(text_after([number(1, 9, 3), number(0, 3, 2), number(1, 0)], 0), text)


class Refusals(unittest.TestCase):
    def test_slots_that_there_aren_t(self):
        self.assertEqual(firsts([write(16), write(17), write(GREATEST)]), [-1] * 3)

    def test_write_changes_nothing(self):
        asked = [room()] + [shape(slot) for slot in range(16)]
        games = [heap(0, 7), number(1, -9, 3), make(2, [0, 1], [3])]
        writes = [write(slot) for slot in range(17)]
        self.assertEqual(each(games + writes + asked)[-17:], each(games + asked)[-17:])


if __name__ == "__main__":
    unittest.main()
