"""The call option: both sides of a form, what there isn't, and which refusal comes first."""

import unittest

from tests.helper import (ZERO, Line, each, firsts, fraction, game, heap, last, make, minus, number, option, order, pile,
                          read, room, shape, sum_of, text_after, times, whole, write)

GREATEST = 2 ** 63 - 1
STAR = pile(1)

# Slot 1 has the heap of 3; slot 2 has {2 | -3}; slot 3 has 5/4; slot 4 has up and star: {0, * | 0}.
GAMES = [heap(1, 3), number(5, 2), number(6, -3), make(2, [5], [6]), number(3, 5, 2), heap(7, 1), make(4, [0], [7]),
         sum_of(4, 4, 7), number(5, 0), number(6, 0)]
FORMS = {1: ((ZERO, STAR, pile(2)), (ZERO, STAR, pile(2))), 2: ((whole(2),), (whole(-3),)),
         3: ((whole(1),), (fraction(3, 1),)), 4: ((ZERO, STAR), (ZERO,)), 0: ((), ())}


class Options(unittest.TestCase):
    def test_each_option_of_both_sides_and_one_more(self):
        for a, rows in FORMS.items():
            for side, row in enumerate(rows):
                for i in range(len(row)):
                    line = Line(GAMES)
                    self.assertEqual(line.ask(option(9, a, side, i)), [0], (a, side, i))
                    self.assertEqual(line.form(9), row[i], (a, side, i))
                    self.assertEqual(line.form(a), game(*rows))
                for i in (len(row), len(row) + 1, 100, GREATEST):
                    self.assertEqual(last(GAMES + [option(9, a, side, i)]), [-2], (a, side, i))

    def test_options_are_the_form_s_and_not_those_handed_in(self):
        # {0, 1, 2 | 5} is 3, whose one left option is 2; {* | *} is 0.
        line = Line([number(1, 1), number(2, 2), number(5, 5), make(6, [0, 1, 2], [5]), option(7, 6, 0, 0)])
        self.assertEqual(line.given, [0] * 5)
        self.assertEqual(line.form(7), whole(2))
        self.assertEqual(line.call(option(7, 6, 0, 1)), -2)
        self.assertEqual(line.call(option(7, 6, 1, 0)), -2)
        self.assertEqual(firsts([heap(1, 1), make(2, [1], [1]), option(3, 2, 0, 0), option(3, 2, 1, 0)]), [0, 0, -2, -2])

    def test_options_stand_in_the_order_of_games(self):
        line = Line([heap(1, 1), heap(2, 2), make(3, [2, 0, 1], [1, 2, 0])])
        for side in (0, 1):
            for i in range(3):
                self.assertEqual(line.call(option(4, 3, side, i)), 0)
                self.assertEqual(line.form(4), pile(i))

    def test_the_slot_written_may_be_the_one_that_is_read(self):
        line = Line([number(0, 9)] + [option(0, 0, 0, 0)] * 9)
        self.assertEqual(line.given, [0] * 10)
        self.assertEqual(line.form(0), ZERO)
        self.assertEqual(line.call(option(0, 0, 0, 0)), -2)
        self.assertEqual(each([heap(15, 5), option(15, 15, 1, 4), option(15, 15, 1, 4), shape(15)]),
                         [[0], [0], [-2], [0, 5, 20, 4, 4, 4]])

    def test_only_the_slot_that_is_written_changes(self):
        line = Line([number(slot, slot - 8, 1) for slot in range(16)])
        before = line.forms()
        self.assertEqual(line.call(option(3, 15, 0, 0)), 0)
        before[3] = whole(3)
        self.assertEqual(line.forms(), before)

    def test_option_and_make_are_each_other_s_way_back(self):
        line = Line([number(0, 3), heap(1, 2), make(2, [0], [1]), option(3, 2, 0, 0), option(4, 2, 1, 0),
                     make(5, [3], [4])])
        self.assertEqual(line.given, [0] * 6)
        self.assertEqual([line.ask(order(2, 5)), line.ask(order(0, 3)), line.ask(order(1, 4))], [[0]] * 3)


class Refusals(unittest.TestCase):
    def test_slots_and_sides_that_there_aren_t(self):
        for wrong in (16, 17, 1000, GREATEST):
            self.assertEqual(firsts(GAMES + [option(wrong, 1, 0, 0), option(0, wrong, 0, 0)])[-2:], [-1, -1])
        for side in (2, 3, 15, GREATEST):
            self.assertEqual(last(GAMES + [option(9, 1, side, 0)]), [-1])
        self.assertEqual(firsts(GAMES + [option(15, 1, 1, 2), option(0, 15, 0, 0)])[-2:], [0, 0])

    def test_minus_1_comes_before_minus_2(self):
        calls = [option(16, 0, 0, 0), option(0, 16, 0, 9), option(0, 0, 2, 0), option(0, 0, 2, GREATEST),
                 option(16, 16, 2, 9), option(0, 0, GREATEST, GREATEST)]
        self.assertEqual(firsts(calls), [-1] * 6)

    def test_a_refused_option_changes_nothing(self):
        for call in (option(16, 1, 0, 0), option(1, 16, 0, 0), option(1, 1, 2, 0), option(1, 1, 0, 3), option(2, 0, 0, 0)):
            line = Line(GAMES)
            before = line.forms(), line.ask(room())
            self.assertLess(line.call(call), 0)
            self.assertEqual((line.forms(), line.ask(room())), before)


class Room(unittest.TestCase):
    def test_there_is_just_room(self):
        self.assertEqual(each([number(0, 95), room(), option(1, 0, 0, 0), room(), option(0, 0, 0, 0), room()]),
                         [[0], [0, 96, 95], [0], [0, 96, 95], [0], [0, 95, 94]])
        self.assertEqual(each([heap(0, 31), number(1, 32), room(), option(2, 0, 1, 30), room()]),
                         [[0], [0], [0, 64, 1024], [0], [0, 64, 1024]])

    def test_what_nothing_leads_to_any_more_takes_no_room(self):
        self.assertEqual(each([number(0, -95), option(0, 0, 1, 0), heap(1, 1), heap(1, 2), room()]),
                         [[0], [0], [0], [-5], [0, 96, 96]])

    def test_down_from_a_game_of_as_many_parts_as_there_s_room_for(self):
        self.assertEqual(firsts([number(0, 95)] + [option(0, 0, 0, 0)] * 96), [0] * 96 + [-2])


class WithTheOtherCalls(unittest.TestCase):
    def test_an_option_is_the_game_that_it_is_worth(self):
        ways = (number(9, 1), heap(9, 1), minus(9, 3), times(9, 3, 3))
        for call in ways:
            line = Line([number(3, -1), call, make(10, [9], [9]), option(11, 10, 0, 0), option(12, 10, 1, 0)])
            # {* | *} is 0, which has no options.
            none_there = line.form(9) == STAR
            self.assertEqual(line.given[-2:], [-2, -2] if none_there else [0, 0])
            self.assertEqual([line.form(11), line.form(12)], [ZERO if none_there else line.form(9)] * 2)

    def test_read_and_write_of_an_option(self):
        text = text_after([heap(0, 6), option(1, 0, 0, 4)], 1)
        self.assertEqual(text, text_after([heap(1, 4)], 1))
        self.assertEqual(each([read(0, text), option(0, 0, 1, 1), write(0)])[2], [0, 15] + text_after([heap(0, 1)], 0))


if __name__ == "__main__":
    unittest.main()
