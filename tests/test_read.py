"""The call read: what write gave, bytes that are no game's, and a game for which there's no room."""

import itertools
import random
import unittest

from tests.helper import (Line, bytes_of, each, firsts, fraction, game_of_bytes, heap, last, make, minus, number, option,
                          order, pile, read, room, shape, sum_of, text_after, text_of_rows, times, whole, write)

GREATEST = 2 ** 63 - 1
ZERO_TEXT = [0x47, 1, 0, 0, 0, 0, 0]

# Lines that put a game into slot 9.
LINES = ([[number(9, m, k)] for m in range(-5, 6) for k in range(4)] + [[heap(9, n)] for n in range(8)]
         + [[number(9, 95)], [number(9, -95)], [heap(9, 31)], [number(9, 1, 62)], [number(9, -GREATEST, 62)],
            [heap(0, 1), make(9, [1], [0])], [heap(0, 1), make(9, [0], [1])],
            [heap(0, 1), make(1, [2], [0]), sum_of(9, 1, 0)], [heap(0, 1), make(1, [2], [0]), times(9, 1, -3)],
            [number(0, 3), number(1, 1), make(9, [0], [1])], [number(0, 3), number(1, -4), make(2, [0], [1]), times(9, 2, 3)],
            [heap(0, 2), number(1, -1), make(9, [2, 0], [0, 1])], [heap(0, 5), number(1, 3, 2), sum_of(9, 0, 1)],
            [number(0, 1), heap(1, 1), make(2, [0], [4, 1]), make(9, [2], [4])], [heap(0, 6), option(9, 0, 0, 4)],
            [heap(0, 31), number(1, 30), make(9, [1], [0])]])


class WhatWriteGave(unittest.TestCase):
    def test_in_another_slot_of_the_same_object(self):
        for calls in LINES:
            line = Line(calls)
            text = line.ask(write(9))[2:]
            before = line.ask(room())
            self.assertEqual([line.ask(read(15, text)), line.ask(order(9, 15)), line.ask(room())], [[0], [0], before])
            self.assertEqual(line.ask(write(15))[2:], text)
            self.assertEqual(line.form(15), line.form(9))

    def test_in_a_new_object(self):
        for calls in LINES:
            text = text_after(calls, 9)
            line = Line([read(4, text)])
            self.assertEqual(line.given, [0], calls)
            self.assertEqual(line.form(4), Line(calls).form(9))
            self.assertEqual(line.ask(write(4))[2:], text)
            self.assertEqual(line.ask(shape(4)), last(calls + [shape(9)]))

    def test_only_the_slot_that_is_written_changes(self):
        line = Line([number(slot, slot - 8, 1) for slot in range(16)])
        before = line.forms()
        self.assertEqual(line.call(read(3, text_after([heap(0, 4)], 0))), 0)
        before[3] = pile(4)
        self.assertEqual(line.forms(), before)

    def test_a_game_that_was_read_is_as_one_that_was_made(self):
        three, star = text_after([number(0, 3)], 0), text_after([heap(0, 1)], 0)
        line = Line([read(0, three), read(1, star), sum_of(2, 0, 1), minus(3, 0), times(4, 0, 5), make(5, [0], [1])])
        other = Line([number(0, 3), heap(1, 1), sum_of(2, 0, 1), minus(3, 0), times(4, 0, 5), make(5, [0], [1])])
        self.assertEqual(line.given, [0] * 6)
        self.assertEqual(line.forms(), other.forms())

    def test_over_the_game_that_was_there(self):
        self.assertEqual(each([number(0, 5), read(0, ZERO_TEXT), room(), read(0, ZERO_TEXT), shape(0)]),
                         [[0], [0], [0, 1, 0], [0], [0, 1, 0, 0, 0, 0]])


class NoGames(unittest.TestCase):
    def assert_no_game(self, text):
        self.assertEqual(each([number(3, 4), read(3, text), shape(3), room()]),
                         [[0], [-3], [0, 5, 4, 4, 1, 0], [0, 5, 4]], text)

    def assert_no_rows(self, *rows):
        self.assert_no_game(text_of_rows(rows))

    def test_fewer_bytes_than_are_told(self):
        self.assert_no_game([])
        for calls in LINES[::4]:
            text = text_after(calls, 9)
            for length in range(min(len(text), 200)):
                self.assert_no_game(text[:length])
            self.assert_no_game(text[:-1])
            self.assert_no_game(text[:-2])

    def test_more_bytes_than_are_told(self):
        for calls in LINES[::4]:
            text = text_after(calls, 9)
            for more in ([0], [1], [0x47], [255], [0, 0], [0, 0, 0, 0], text):
                self.assert_no_game(text + more)
        self.assert_no_game([0] + ZERO_TEXT)

    def test_another_first_byte(self):
        for first in (0, 1, 0x46, 0x48, 0x67, 47, 255):
            self.assert_no_game([first] + ZERO_TEXT[1:])

    def test_0_parts(self):
        self.assert_no_game([0x47, 0, 0])
        self.assert_no_game([0x47, 0, 0, 0, 0, 0, 0])

    def test_more_than_96_parts(self):
        self.assertEqual(last([read(0, bytes_of(whole(95)))]), [0])
        for n in (96, -96, 97, 300, 600):
            text = bytes_of(whole(n)) if abs(n) < 200 else text_of_rows([([i + 1], []) for i in range(n)] + [([], [])])
            self.assertLessEqual(len(text), 5000)
            self.assert_no_game(text)
        self.assert_no_game([0x47, 1, 1, 0, 0, 0, 0])
        self.assert_no_game([0x47, 255, 255])

    def test_a_part_s_number_that_there_isn_t(self):
        for number_of_part in (2, 3, 257, 65535):
            self.assert_no_rows(([number_of_part], []), ([], []))
            self.assert_no_rows(([], [number_of_part]), ([], []))
            self.assert_no_rows(([1], [number_of_part]), ([], []))
        self.assert_no_rows(([1], []))

    def test_a_ring(self):
        self.assert_no_rows(([0], []))
        self.assert_no_rows(([], [0]))
        self.assert_no_rows(([0], [0]))
        self.assert_no_rows(([1], []), ([0], []))
        self.assert_no_rows(([1], []), ([], [0]))
        self.assert_no_rows(([1], [2]), ([], []), ([1], [0]))
        self.assert_no_rows(([1], []), ([2], []), ([3], []), ([1], []))
        self.assert_no_rows(*[([(part + 1) % 96], []) for part in range(96)])

    def test_parts_numbered_in_another_order(self):
        self.assertEqual(last([read(0, text_of_rows([([1], [2]), ([], []), ([1], [])]))]), [0])
        self.assert_no_rows(([2], [1]), ([2], []), ([], []))
        # The game isn't part 0.
        self.assert_no_rows(([], []), ([0], []))
        # {2 | -1} with the options numbered before what these lead to.
        self.assertEqual(last([read(0, text_of_rows([([1], [4]), ([2], []), ([3], []), ([], []), ([], [3])]))]), [0])
        self.assert_no_rows(([1], [2]), ([3], []), ([], [4]), ([4], []), ([], []))
        # {{1 | 0, *} | 0} with 0 behind *.
        self.assertEqual(last([read(0, text_of_rows([([1], [3]), ([2], [3, 4]), ([3], []), ([], []), ([3], [3])]))]), [0])
        self.assert_no_rows(([1], [4]), ([2], [4, 3]), ([4], []), ([4], [4]), ([], []))

    def test_a_part_twice(self):
        self.assert_no_rows(([1], [2]), ([], []), ([], []))
        self.assert_no_rows(([1], [3]), ([2], []), ([], []), ([2], []))
        self.assert_no_rows(([1], [2]), ([], []), ([3], []), ([], []))

    def test_a_row_in_another_order(self):
        self.assertEqual(last([read(0, text_of_rows([([1, 2], [1, 2]), ([], []), ([1], [1])]))]), [0])
        self.assert_no_rows(([1, 2], [1, 2]), ([2], [2]), ([], []))
        self.assert_no_rows(([1, 2], [2, 1]), ([], []), ([1], [1]))
        # {2 | *2}, in which *2 has a row in another order.
        for row, asked in (([3, 5], 0), ([5, 3], -3)):
            text = text_of_rows([([1], [4]), ([2], []), ([3], []), ([], []), ([3, 5], row), ([3], [3])])
            self.assertEqual(last([read(0, text)]), [asked])

    def test_beaten_options(self):
        # {0, 1 | }, { | 0, -1}, and 0 at two places of a row.
        self.assert_no_rows(([1, 2], []), ([], []), ([1], []))
        self.assert_no_rows(([], [1, 2]), ([], []), ([], [1]))
        self.assert_no_rows(([1, 1], []), ([], []))
        self.assert_no_rows(([1], [1, 1]), ([], []))
        # {0, -1 | 0} and {0 | 0, 1}.
        self.assert_no_rows(([1, 2], [1]), ([], []), ([], [1]))
        self.assert_no_rows(([1], [1, 2]), ([], []), ([1], []))
        # {{0, 1 | } | }: a part of it has a beaten option.
        self.assert_no_rows(([1], []), ([2, 3], []), ([], []), ([2], []))

    def test_options_that_come_back(self):
        # {* | }, { | *}, {* | *} and {-1 | 1} are 0.
        self.assert_no_rows(([1], []), ([2], [2]), ([], []))
        self.assert_no_rows(([], [1]), ([2], [2]), ([], []))
        self.assert_no_rows(([1], [1]), ([2], [2]), ([], []))
        self.assert_no_rows(([1], [3]), ([], [2]), ([], []), ([2], []))
        # {up | up and star}, up being {0 | *}: up is answered by *, behind which left has 0.
        self.assert_no_rows(([1], [4]), ([2], [3]), ([], []), ([2], [2]), ([2, 3], [2]))
        self.assertEqual(last([read(0, text_of_rows([([1], [2]), ([], []), ([1, 3], [1]), ([1], [1])]))]), [0])
        # {0 | 2} is 1: 2 is answered by 1.
        self.assert_no_rows(([1], [2]), ([], []), ([3], []), ([1], []))

    def test_a_part_that_nothing_leads_to(self):
        self.assert_no_rows(([], []), ([], []))
        self.assert_no_rows(([1], []), ([], []), ([1], []))
        self.assert_no_rows(([1], []), ([], []), ([0], []))
        self.assert_no_rows(([1], [1]), ([], []), ([0, 1], [0, 1]))

    def test_texts_of_5000_bytes(self):
        chance = random.Random(5000)
        self.assert_no_game([0] * 5000)
        self.assert_no_game([0x47] * 5000)
        self.assert_no_game([255] * 5000)
        self.assert_no_game([0x47, 96, 0] + [0] * 4997)
        self.assert_no_game([0x47] + [1, 0] * 2499 + [0])
        self.assert_no_game([0x47] + [1, 0] * 2499)
        self.assert_no_game([chance.randrange(256) for _ in range(5000)])
        self.assert_no_game([0x47, 96, 0] + [chance.randrange(3) for _ in range(4997)])
        self.assert_no_game(ZERO_TEXT + [0] * 4993)
        text = bytes_of(pile(48))
        self.assert_no_game(text + [0] * (5000 - len(text)))
        # A game with 0 as an option 2,490 times.
        rows = [([1] * 2000, [1] * 490), ([], [])]
        self.assertEqual(len(text_of_rows(rows)), 3 + 8 + 4980)
        self.assert_no_rows(*rows)


class BytesByChance(unittest.TestCase):
    def test_one_byte_of_a_game_s_bytes_changed(self):
        games = 0
        for calls in LINES:
            text = text_after(calls, 9)
            if len(text) > 60:
                continue
            for place in range(len(text)):
                for byte in (0, 1, 2, 3, 4, 5, 6, 7, 255):
                    changed = text[:place] + [byte] + text[place + 1:]
                    asked = -3 if game_of_bytes(changed) is None else 0
                    self.assertEqual(last([read(0, changed)]), [asked], changed)
                    games += changed != text and asked == 0
        self.assertGreater(games, 20)

    def test_rows_of_few_parts(self):
        rows = [[], [1], [2], [1, 2], [2, 1]]
        second = [[], [2]]
        games = 0
        for lefts, rights, two, three in itertools.product(rows, rows, second, second):
            text = text_of_rows([(lefts, rights), (two, three), ([], [])])
            asked = -3 if game_of_bytes(text) is None else 0
            games += asked == 0
            self.assertEqual(last([read(0, text)]), [asked], text)
            text = text_of_rows([(lefts, rights), ([], []), ([1] * len(two), [1] * len(three))])
            asked = -3 if game_of_bytes(text) is None else 0
            games += asked == 0
            self.assertEqual(last([read(0, text)]), [asked], text)
        self.assertGreater(games, 10)

    def test_rows_by_chance(self):
        chance = random.Random(11)
        games = 0
        for _ in range(6000):
            parts = chance.randint(2, 5)
            rows = [[sorted(chance.sample(range(1, parts), chance.choice([0, 0, 1, 1, 1, 2])
                                          if parts > 2 else chance.randint(0, 1))) for _ in range(2)] for _ in range(parts)]
            text = text_of_rows(rows)
            asked = -3 if game_of_bytes(text) is None else 0
            games += asked == 0
            self.assertEqual(last([read(0, text)]), [asked], rows)
        self.assertGreater(games, 50)


class Refusals(unittest.TestCase):
    BIG = bytes_of(pile(32))

    def test_slots_that_there_aren_t(self):
        for wrong in (16, 17, GREATEST):
            self.assertEqual(firsts([read(wrong, ZERO_TEXT), read(wrong, []), read(wrong, self.BIG), read(15, ZERO_TEXT)]),
                             [-1, -1, -1, 0])

    def test_minus_1_then_minus_3_then_minus_5(self):
        full = number(0, 95)
        star = text_after([heap(0, 1)], 0)
        self.assertEqual(firsts([full, read(16, star), read(1, star), read(1, star + [0]), read(16, star + [0]),
                                 read(1, star[:-1])]), [0, -1, -5, -3, -1, -3])
        # {* | *} isn't least, and has a part for which there's no room.
        self.assertEqual(firsts([full, read(1, text_of_rows([([1], [1]), ([2], [2]), ([], [])]))]), [0, -3])

    def test_no_room_beside_what_the_slots_have(self):
        for n in (5, 30, 94):
            self.assertEqual(firsts([number(0, n - 95), read(1, bytes_of(whole(n + 1))), read(1, bytes_of(whole(n)))]),
                             [0, -5, 0])
        self.assertEqual(firsts([number(0, 95), read(1, bytes_of(whole(95))), read(2, bytes_of(whole(60))),
                                 read(3, bytes_of(whole(-1)))]), [0, 0, 0, -5])
        # The slot that's to be written over counts with what it holds.
        self.assertEqual(firsts([number(0, 95), read(0, bytes_of(whole(-1))), number(0, 94), read(0, bytes_of(whole(-1)))]),
                         [0, -5, 0, 0])

    def test_no_room_for_the_options(self):
        self.assertEqual(firsts([read(0, self.BIG), read(0, bytes_of(pile(31))), number(1, 32), number(1, 33)]),
                         [-5, 0, 0, -5])
        self.assertEqual(firsts([number(1, 33), read(0, bytes_of(pile(31))), number(1, 32), read(0, bytes_of(pile(31)))]),
                         [0, -5, 0, 0])

    def test_far_more_options_than_there_s_ever_room_for(self):
        for n in (33, 40, 48):
            # The heap of k is part k + 1, but for the game itself.
            rows = [list(range(1, k + 1)) for k in range(n)]
            first = list(range(1, n + 1))
            text = text_of_rows([(first, first)] + [(row, row) for row in rows])
            self.assertEqual(text, bytes_of(pile(n)))
            self.assertLessEqual(len(text), 5000)
            self.assertEqual(each([heap(2, 3), read(0, text), room()]), [[0], [-5], [0, 4, 12]])
            # No game's bytes are refused as such, though there wouldn't be room for the parts they tell either.
            for wrong in (first[:-2] + [n, n - 1], first + [n], first[:-1] + [0], first[:-1] + [n + 1]):
                no_game = text_of_rows([(first, wrong)] + [(row, row) for row in rows])
                self.assertEqual(each([heap(2, 3), read(0, no_game), room()]), [[0], [-3], [0, 4, 12]])
            self.assertEqual(firsts([read(0, text[:-2]), read(0, text[:-1] + [1]), read(0, text + [0, 0])]), [-3] * 3)

    def test_as_many_parts_as_there_s_room_for(self):
        for text in (bytes_of(whole(95)), bytes_of(whole(-95)), bytes_of(fraction(37 * 2 ** 57 + 1, 57))):
            self.assertEqual(each([read(0, text), room()])[1][1], 96)
            self.assertEqual(firsts([heap(0, 1), read(1, text), heap(0, 0), read(1, text)]), [0, -5, 0, 0])

    def test_a_refused_read_takes_no_room(self):
        text = bytes_of(whole(60))
        given = each([number(0, -50), read(1, text), read(1, text[:-1]), read(1, text + [0, 0]), room(), number(1, 45),
                      number(2, 46)])
        self.assertEqual(given, [[0], [-5], [-3], [-3], [0, 51, 50], [0], [-5]])

    def test_calls_behind_a_refused_read_are_read_at_their_place(self):
        self.assertEqual(firsts([read(16, [9, 9, 1, 3]), number(0, 1, 63), read(0, []), read(0, [7] * 5000), heap(1, 2)]),
                         [-1, -2, -3, -3, 0])


if __name__ == "__main__":
    unittest.main()
