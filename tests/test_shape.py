"""The calls shape and room: parts and options in all, each different part once."""

import unittest

from tests.helper import (Line, each, firsts, heap, last, make, minus, number, option, order, read, room, shape, sum_of,
                          times, write)

GREATEST = 2 ** 63 - 1


class Shape(unittest.TestCase):
    def assert_shape(self, calls, slot, asked):
        self.assertEqual(last(calls + [shape(slot)]), [0] + asked, calls)

    def test_0_alone(self):
        for slot in range(16):
            self.assert_shape([], slot, [1, 0, 0, 0, 0])

    def test_whole_numbers(self):
        for n in (1, 2, 7, 95):
            self.assert_shape([number(3, n)], 3, [n + 1, n, n, 1, 0])
            self.assert_shape([number(3, -n)], 3, [n + 1, n, n, 0, 1])

    def test_fractions(self):
        # 1/2 has the parts 1/2, 0, 1; 5/4 has 5/4, 1, 3/2, 2, 0; 1/2^62 has 0, 1, 1/2, 1/4 and so on.
        self.assert_shape([number(3, 1, 1)], 3, [3, 3, 2, 1, 1])
        self.assert_shape([number(3, 5, 2)], 3, [5, 6, 4, 1, 1])
        self.assert_shape([number(3, -5, 2)], 3, [5, 6, 4, 1, 1])
        self.assert_shape([number(3, 1, 62)], 3, [64, 125, 63, 1, 1])

    def test_heaps(self):
        for n in (1, 2, 5, 31):
            self.assert_shape([heap(3, n)], 3, [n + 1, n * (n + 1), n, n, n])

    def test_left_and_right_options(self):
        # {2 | -3}: itself, 2, 1, 0, -1, -2, -3.
        self.assert_shape([number(0, 2), number(1, -3), make(2, [0], [1])], 2, [7, 7, 4, 1, 1])
        # {0, * | 0}, and minus it.
        games = [heap(0, 1), make(1, [2], [0]), sum_of(3, 1, 0), minus(4, 3)]
        self.assert_shape(games, 3, [3, 5, 2, 2, 1])
        self.assert_shape(games, 4, [3, 5, 2, 1, 2])
        # {0 | *}.
        self.assert_shape(games, 1, [3, 4, 2, 1, 1])

    def test_parts_that_come_twice_count_once(self):
        # {{3 | 2} | {-1 | -2}}: itself, {3 | 2}, {-1 | -2}, and -2 to 3, of which 2, 0 and -1 come on several ways.
        games = [number(0, 3), number(1, 2), number(2, -1), number(3, -2), make(4, [0], [1]), make(5, [2], [3]),
                 make(6, [4], [5])]
        self.assert_shape(games, 6, [9, 2 + 2 + 2 + 5, 5, 1, 1])
        # {1 | *3}: 0 is an option of all parts but itself and the game, * of *2 and *3, on both sides.
        self.assert_shape([heap(0, 3), number(2, 1), make(1, [0, 2], [0])], 1, [6, 2 + 12 + 1, 4, 1, 1])

    def test_shape_is_the_form_s(self):
        self.assert_shape([number(0, 3), number(1, 9), make(2, [0, 4], [1])], 2, [5, 4, 4, 1, 0])
        self.assert_shape([heap(0, 9), sum_of(0, 0, 0)], 0, [1, 0, 0, 0, 0])
        self.assert_shape([heap(0, 1), make(1, [0], [0])], 1, [1, 0, 0, 0, 0])

    def test_only_the_slot_asked_counts(self):
        games = [number(0, 5), heap(1, 4), number(2, -9, 3)]
        self.assertEqual(each(games + [shape(0), shape(1), shape(3)])[3:],
                         [[0, 6, 5, 5, 1, 0], [0, 5, 20, 4, 4, 4], [0, 1, 0, 0, 0, 0]])

    def test_slots_that_there_aren_t(self):
        self.assertEqual(firsts([shape(16), shape(99), shape(GREATEST)]), [-1] * 3)


class Room(unittest.TestCase):
    def assert_room(self, calls, parts, options):
        self.assertEqual(last(calls + [room()]), [0, parts, options], calls)

    def test_0_alone(self):
        self.assertEqual(each([room(), room()]), [[0, 1, 0]] * 2)

    def test_one_game(self):
        self.assert_room([number(4, 7)], 8, 7)
        self.assert_room([number(4, -7)], 8, 7)
        self.assert_room([heap(4, 5)], 6, 30)
        self.assert_room([number(4, 5, 2)], 5, 6)

    def test_slots_that_hold_the_same_game(self):
        self.assert_room([heap(slot, 5) for slot in range(16)], 6, 30)
        self.assert_room([number(0, 7), number(1, 14, 1), times(2, 0, 1), minus(3, 0), minus(3, 3)], 8, 7)

    def test_parts_that_several_slots_have(self):
        self.assert_room([number(0, 7), number(1, 5)], 8, 7)
        self.assert_room([number(0, 7), number(1, -5), heap(2, 1)], 14, 14)
        # 3/2 has 1 and 2 as options.
        self.assert_room([number(0, 7), number(1, 3, 1)], 9, 9)
        # {1 | *5} has the parts of both, and itself.
        self.assert_room([heap(0, 5), number(1, 1), make(2, [1], [0])], 8, 30 + 1 + 2)

    def test_what_was_written_over_is_gone(self):
        self.assert_room([number(0, 90), number(0, 2)], 3, 2)
        self.assert_room([number(0, 90), number(1, 3), option(0, 0, 0, 0), number(0, 0)], 4, 3)

    def test_what_a_sum_came_to_is_gone(self):
        self.assert_room([number(0, 1, 9), number(1, -1, 9), sum_of(2, 0, 1)], 21, 38)
        self.assert_room([number(0, 15, 4), times(1, 0, 16)], 20, 23)

    def test_as_many_as_there_s_room_for(self):
        self.assert_room([number(0, 95)], 96, 95)
        self.assert_room([heap(0, 31), number(1, 32)], 64, 1024)
        self.assert_room([heap(0, 31), number(1, 32), number(2, -1)], 64, 1024)
        self.assertEqual(each([number(0, 94), room(), heap(1, 1), room(), heap(2, 2), room()]),
                         [[0], [0, 95, 94], [0], [0, 96, 96], [-5], [0, 96, 96]])

    def test_it_says_how_much_is_left(self):
        for n in (3, 20, 60):
            games = [number(0, n, 2), heap(1, 3)]
            parts = last(games + [room()])[1]
            self.assertEqual(firsts(games + [number(2, parts - 97), number(2, parts - 96)])[2:], [-5, 0])


class RefusedCalls(unittest.TestCase):
    # 90 and -4 have 95 parts together.
    GAMES = [number(0, 90), number(1, -4)]
    REFUSED = (number(0, 1, 63), number(16, 1), number(2, 96), heap(2, 2), make(2, [16], []), make(2, [0] * 33, []),
               minus(2, 0), sum_of(2, 0, 0), times(2, 0, 2), times(2, 0, 17), option(2, 0, 1, 0), option(2, 0, 2, 0),
               order(0, 16), shape(16), write(16), read(16, [0x47, 1, 0, 0, 0, 0, 0]), read(2, [0x47]), read(2, []),
               read(2, [0x47, 3, 0, 2, 0, 2, 0, 1, 0, 2, 0, 1, 0, 2, 0, 0, 0, 0, 0, 1, 0, 1, 0, 1, 0, 1, 0]))

    def test_they_change_neither_shape_nor_room(self):
        asked = [room()] + [shape(slot) for slot in range(16)]
        before = each(self.GAMES + asked)[2:]
        self.assertEqual(before[:3], [[0, 95, 94], [0, 91, 90, 90, 1, 0], [0, 5, 4, 4, 0, 1]])
        for call in self.REFUSED:
            given = each(self.GAMES + [call] * 2 + asked)
            self.assertEqual(len(given[2]), 1)
            self.assertLess(given[2][0], 0, call)
            self.assertEqual(given[3], given[2])
            self.assertEqual(given[4:], before, call)

    def test_each_refusal_is_among_them(self):
        self.assertEqual({last(self.GAMES + [call])[0] for call in self.REFUSED}, {-1, -2, -3, -5})

    def test_asking_changes_nothing(self):
        line = Line(self.GAMES)
        before = line.forms()
        for call in (shape(0), room(), order(0, 1), write(0), shape(1), write(1)):
            self.assertEqual(line.ask(call), line.ask(call))
        self.assertEqual(line.forms(), before)


if __name__ == "__main__":
    unittest.main()
