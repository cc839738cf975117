"""That a slot holds the least game, and the same one whatever it was made from (promises 1, 2 and 4)."""

import itertools
import unittest

from tests.helper import (ZERO, Line, at_most, birthday, compare, fraction, game, heap, is_least, least, make, minus,
                          negative, number, pile, plus, same_worth, sum_of, times, whole)

STAR = pile(1)

# Slots 0 to 3 with all games of birthday 0 and 1.
FIRST_GAMES = [number(0, 0), number(1, 1), number(2, -1), heap(3, 1)]


def subsets(row):
    return [list(some) for size in range(len(row) + 1) for some in itertools.combinations(row, size)]


def second_games():
    """A make for each of the 22 games with a birthday of at most 2, by the model's game."""
    makes = {}
    row = [ZERO, whole(1), whole(-1), STAR]
    for lefts in subsets(range(4)):
        for rights in subsets(range(4)):
            made = least(game([row[i] for i in lefts], [row[i] for i in rights]))
            makes.setdefault(made, (lefts, rights))
    return makes


class LeastGames(unittest.TestCase):
    def test_all_games_made_from_the_first_four(self):
        seen = set()
        row = [ZERO, whole(1), whole(-1), STAR]
        for lefts in subsets(range(4)):
            line = Line(FIRST_GAMES)
            for rights in subsets(range(4)):
                self.assertEqual(line.call(make(4, lefts, rights)), 0)
                made = line.form(4)
                self.assertTrue(is_least(made))
                self.assertTrue(same_worth(made, game([row[i] for i in lefts], [row[i] for i in rights])))
                seen.add(made)
        self.assertEqual(len(seen), 22)
        self.assertFalse([1 for x, y in itertools.combinations(seen, 2) if same_worth(x, y)])

    def test_beaten_options_are_dropped(self):
        line = Line(FIRST_GAMES + [make(4, [0, 1, 2], []), make(5, [], [0, 1, 2]), make(6, [1, 2], [1, 2])])
        self.assertEqual(line.form(4), whole(2))
        self.assertEqual(line.form(5), whole(-2))
        self.assertEqual(line.form(6), game((whole(1),), (whole(-1),)))

    def test_an_option_at_two_places_is_held_once(self):
        line = Line([make(1, [0, 0, 5], [0, 2, 2]), make(3, [1, 1, 0, 0], [0, 1, 0, 1])])
        self.assertEqual(line.form(1), STAR)
        self.assertEqual(line.form(3), pile(2))

    def test_options_that_come_back(self):
        # Left's star is answered by 0, behind which there's nothing; so is right's.
        self.assertEqual(Line([heap(0, 1), make(1, [0], [0])]).form(1), ZERO)
        self.assertEqual(Line([heap(0, 1), make(1, [0], [])]).form(1), ZERO)
        self.assertEqual(Line([heap(0, 1), make(1, [], [0])]).form(1), ZERO)

    def test_in_the_place_of_an_option_that_comes_back_stands_what_is_behind_it(self):
        up_star = game((ZERO, STAR), (ZERO,))
        games = [heap(0, 1), make(1, [2], [0]), sum_of(3, 1, 0)]
        # Up is answered by star, and behind that left has 0; likewise on the other side.
        line = Line(games + [make(4, [1], [3]), minus(5, 1), minus(6, 3), make(7, [6], [5])])
        self.assertEqual(line.form(4), game((ZERO,), (up_star,)))
        self.assertEqual(line.form(7), game((negative(up_star),), (ZERO,)))
        # The heap of 5 is answered by the heap of 3, whose options are there already.
        line = Line([heap(0, 1), heap(1, 2), heap(3, 5), make(4, [5, 0, 1, 3], [5, 0, 1, 3])])
        self.assertEqual(line.form(4), pile(3))

    def test_what_stands_in_its_place_may_come_back_too(self):
        # {0 | *3} is answered by *3, behind which left has 0, * and *2; this *2 is answered by *, and behind that is 0.
        line = Line([heap(1, 3), make(2, [0], [1]), make(3, [2, 0], [0]), minus(4, 2), make(5, [0], [4, 0])])
        self.assertEqual(line.form(2), game((ZERO,), (pile(3),)))
        self.assertEqual(line.form(3), game((ZERO, STAR), (ZERO,)))
        self.assertEqual(line.form(5), game((ZERO,), (ZERO, STAR)))

    def test_sums_of_many_ups(self):
        line = Line([heap(0, 1), make(1, [2], [0]), times(3, 1, 4), sum_of(4, 3, 0), minus(5, 3), sum_of(5, 5, 4)])
        self.assertEqual(line.form(5), STAR)
        self.assertTrue(is_least(line.form(3)))
        self.assertTrue(is_least(line.form(4)))

    def test_numbers_from_wide_and_narrow_pairs(self):
        for left, right, asked in ((1, 9, whole(2)), (-4, 7, ZERO), (-9, -4, whole(-5)), (-1, 0, fraction(-1, 1)),
                                   (5, 6, fraction(11, 1))):
            self.assertEqual(Line([number(0, left), number(1, right), make(2, [0], [1])]).form(2), asked)
        line = Line([number(0, 1, 2), number(1, 7, 3), make(2, [0], [1])])
        self.assertEqual(line.form(2), fraction(1, 1))

    def test_rows_rise_in_the_order_of_games(self):
        for lefts in itertools.permutations([0, 3, 4]):
            line = Line([heap(3, 1), heap(4, 2), make(5, list(lefts), list(reversed(lefts)))])
            self.assertEqual(line.form(5), game((ZERO, STAR, pile(2)), (ZERO, STAR, pile(2))))

    def test_rows_of_games_with_equal_birthdays(self):
        makes = second_games()
        games = sorted(makes, key=birthday)
        pairs = [(x, y) for x, y in itertools.combinations(games, 2)
                 if birthday(x) == birthday(y) == 2 and not at_most(x, y) and not at_most(y, x)]
        turned = 0
        for x, y in pairs:
            line = Line(FIRST_GAMES + [make(4, *makes[x]), make(5, *makes[y]), make(6, [4, 5], [2]), make(7, [5, 4], [2]),
                                       minus(8, 6), minus(9, 8)])
            self.assertEqual(line.form(6), least(game((x, y), (whole(-1),))))
            self.assertEqual(line.form(7), line.form(6))
            self.assertEqual(line.form(8), negative(line.form(6)))
            self.assertTrue(is_least(line.form(8)))
            self.assertEqual(line.form(9), line.form(6))
            turned += compare(x, y) * compare(negative(x), negative(y)) < 0
        self.assertGreater(turned, 5)


class TheSameFormWhateverItWasMadeFrom(unittest.TestCase):
    def test_ways_to_one_game(self):
        ways = {
            "half": ([number(9, 1, 1)], [number(9, 8, 4)], [number(0, 1), make(9, [1], [0])],
                     [number(0, 1, 2), sum_of(9, 0, 0)], [number(0, -1, 1), minus(9, 0)],
                     [number(0, 1, 4), times(9, 0, 8)], [number(0, 3, 1), number(1, -1), sum_of(9, 0, 1)]),
            "star": ([heap(9, 1)], [make(9, [0], [0])], [heap(0, 3), heap(1, 2), sum_of(9, 0, 1)],
                     [heap(0, 1), times(9, 0, 15)], [heap(0, 1), minus(9, 0)],
                     [heap(0, 2), heap(1, 3), make(9, [0, 1, 2], [1, 2])]),
            "nothing": ([number(9, 0)], [number(9, 0, 62)], [heap(9, 0)], [make(9, [], [])], [minus(9, 0)],
                        [heap(0, 7), sum_of(9, 0, 0)], [number(0, -5), number(1, 3), make(9, [0], [1])],
                        [heap(0, 4), times(9, 0, 2)], [number(0, 9), times(9, 0, 0)]),
        }
        for name, lines in ways.items():
            forms = [Line(line).form(9) for line in lines]
            self.assertEqual(forms, forms[:1] * len(forms), name)

    def test_a_less_a_is_0_and_sums_are_the_model_s(self):
        makes = second_games()
        for x, how in makes.items():
            line = Line(FIRST_GAMES + [make(4, *how), minus(5, 4), sum_of(6, 4, 5), sum_of(7, 5, 4)])
            self.assertEqual(line.given, [0] * 8)
            self.assertEqual(line.form(4), x)
            self.assertEqual(line.form(5), negative(x))
            self.assertEqual([line.form(6), line.form(7)], [ZERO, ZERO])

    def test_a_and_b_is_b_and_a(self):
        makes = second_games()
        for x, y in itertools.combinations_with_replacement(list(makes), 2):
            line = Line(FIRST_GAMES + [make(4, *makes[x]), make(5, *makes[y]), sum_of(6, 4, 5), sum_of(7, 5, 4)])
            self.assertEqual(line.given, [0] * 8)
            self.assertEqual(line.form(6), line.form(7))
            self.assertEqual(line.form(6), plus(x, y))
            self.assertTrue(is_least(line.form(6)))

    def test_sums_keep_the_order(self):
        makes = second_games()
        games = list(makes)[::2]
        for third in games[:4]:
            sums = {}
            for x in games:
                line = Line(FIRST_GAMES + [make(4, *makes[x]), make(5, *makes[third]), sum_of(6, 4, 5)])
                sums[x] = line.form(6)
            for x, y in itertools.product(games, games):
                self.assertEqual(at_most(x, y), at_most(sums[x], sums[y]))

    def test_a_sum_of_three_in_any_grouping(self):
        games = [heap(0, 2), number(1, 3, 2), make(2, [1], [0])]
        line = Line(games + [sum_of(3, 0, 1), sum_of(3, 3, 2), sum_of(4, 1, 2), sum_of(4, 0, 4)])
        self.assertEqual(line.given, [0] * 7)
        self.assertEqual(line.form(3), line.form(4))


class HeapsAndNumbers(unittest.TestCase):
    def test_heaps_add_by_exclusive_or(self):
        for n in range(0, 32, 3):
            for m in range(0, 32, 5):
                line = Line([heap(0, n), heap(1, m), sum_of(2, 0, 1)])
                self.assertEqual(line.given, [0, 0, 0])
                self.assertEqual(line.form(2), pile(n ^ m))

    def test_numbers_add_as_numbers(self):
        for m, k, n in itertools.product((-7, -3, 0, 5, 12), (0, 1, 3), (-9, -2, 1, 6)):
            line = Line([number(0, m, k), number(1, n, 2), sum_of(2, 0, 1)])
            self.assertEqual(line.given, [0, 0, 0], (m, k, n))
            self.assertEqual(line.form(2), fraction(4 * m + n * 2 ** k, k + 2))

    def test_times_multiplies_numbers(self):
        for m, k, n in itertools.product((-3, 1, 2), (0, 1, 2), (-9, -4, 2, 7)):
            line = Line([number(0, m, k), times(1, 0, n)])
            self.assertEqual(line.given, [0, 0])
            self.assertEqual(line.form(1), fraction(m * n, k))

    def test_numbers_and_heaps_made_from_moves(self):
        for n in range(1, 12):
            slots = list(range(n))
            line = Line([heap(slot, slot) for slot in slots] + [make(15, slots, slots)])
            self.assertEqual(line.form(15), pile(n))
            line = Line([number(0, n - 1), number(1, n), make(14, [0], [1]), make(15, [0], [])])
            self.assertEqual([line.form(14), line.form(15)], [fraction(2 * n - 1, 1), whole(n)])


if __name__ == "__main__":
    unittest.main()
