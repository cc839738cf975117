"""What the tests share: short ways to write calls, a look into the slots, and a plain model to hold answers against."""

import functools

from gameworth.games import ROWS_OF_CALLS, Reader, NUMBERS_OF_CALLS, answer, answers
from gameworth.slots import Slots


def number(d, m, k=0):
    return [0, d, m, k]


def heap(d, n):
    return [1, d, n]


def make(d, lefts, rights):
    return [2, d, len(lefts)] + lefts + [len(rights)] + rights


def minus(d, a):
    return [3, d, a]


def sum_of(d, a, b):
    return [4, d, a, b]


def times(d, a, n):
    return [5, d, a, n]


def joined(calls):
    line = []
    for call in calls:
        line = line + call
    return line


def firsts(calls):
    """The first number answered by each call, of calls that answer one number each."""
    given = answers(joined(calls))
    if given[0::2] != [1] * len(calls):
        raise AssertionError(f"not one number a call: {given}")
    return given[1::2]


def held(slots, slot):
    """A slot's form as the model's game, rows as they stand."""
    known = {}

    def game_of(part):
        if part.bit not in known:
            rows = [tuple(game_of(option) for option in row) for row in part.rows]
            known[part.bit] = game(rows[0], rows[1])
        return known[part.bit]

    return game_of(slots.forms[slot])


class Line:
    """One object and the calls on it, one at a time, with a look into its slots between them."""

    def __init__(self, calls=()):
        self.slots = Slots()
        self.given = [self.call(call) for call in calls]

    def call(self, call):
        reader = Reader(call)
        which = reader.take_number()
        numbers = reader.take_numbers(NUMBERS_OF_CALLS[which])
        rows = [reader.take_row() for _ in range(ROWS_OF_CALLS[which])]
        return answer(self.slots, which, numbers, rows)[0]

    def form(self, slot):
        return held(self.slots, slot)

    def forms(self):
        return [self.form(slot) for slot in range(16)]


# The model: a game is a number that stands for its two rows, each pair of rows once.
# All is written as the document's definitions are, with recursion, and nothing is ever dropped.

GAMES = []
NUMBER_OF_GAME = {}


def game(lefts, rights):
    rows = (tuple(lefts), tuple(rights))
    if rows not in NUMBER_OF_GAME:
        NUMBER_OF_GAME[rows] = len(GAMES)
        GAMES.append(rows)
    return NUMBER_OF_GAME[rows]


def lefts_of(x):
    return GAMES[x][0]


def rights_of(x):
    return GAMES[x][1]


@functools.cache
def at_most(x, y):
    if any(at_most(y, option) for option in lefts_of(x)):
        return False
    return not any(at_most(option, x) for option in rights_of(y))


def same_worth(x, y):
    return at_most(x, y) and at_most(y, x)


@functools.cache
def birthday(x):
    return max((birthday(option) + 1 for option in lefts_of(x) + rights_of(x)), default=0)


def compare_rows(xs, ys):
    for x, y in zip(xs, ys):
        if x != y:
            return compare(x, y)
    return len(xs) - len(ys)


@functools.cache
def compare(x, y):
    """Below 0 if x comes before y in the order of games, 0 if they are the same."""
    return (birthday(x) - birthday(y)
            or compare_rows(lefts_of(x), lefts_of(y))
            or compare_rows(rights_of(x), rights_of(y)))


def in_order(row):
    return tuple(sorted(set(row), key=functools.cmp_to_key(compare)))


def left_comes_back(g, x):
    return next((y for y in rights_of(x) if at_most(y, g)), None)


def right_comes_back(g, x):
    return next((y for y in lefts_of(x) if at_most(g, y)), None)


@functools.cache
def least(g):
    """The form of a game whose options are least: one step nearer, and so on until there is none left."""
    lefts = in_order(lefts_of(g))
    rights = in_order(rights_of(g))
    for x in lefts:
        others = [y for y in lefts if y != x]
        if any(at_most(x, y) for y in others):
            return least(game(others, rights))
        back = left_comes_back(g, x)
        if back is not None:
            return least(game(others + list(lefts_of(back)), rights))
    for x in rights:
        others = [y for y in rights if y != x]
        if any(at_most(y, x) for y in others):
            return least(game(lefts, others))
        back = right_comes_back(g, x)
        if back is not None:
            return least(game(lefts, others + list(rights_of(back))))
    return game(lefts, rights)


@functools.cache
def is_least(g):
    """The document's definition, word by word."""
    lefts = lefts_of(g)
    rights = rights_of(g)
    if not all(is_least(x) for x in lefts + rights):
        return False
    for i, x in enumerate(lefts):
        if any(i != j and at_most(x, y) for j, y in enumerate(lefts)) or left_comes_back(g, x) is not None:
            return False
    for i, x in enumerate(rights):
        if any(i != j and at_most(y, x) for j, y in enumerate(rights)) or right_comes_back(g, x) is not None:
            return False
    return all(compare(x, y) < 0 for row in (lefts, rights) for x, y in zip(row, row[1:]))


ZERO = game((), ())


@functools.cache
def whole(n):
    if n == 0:
        return ZERO
    return game((whole(n - 1),), ()) if n > 0 else game((), (whole(n + 1),))


@functools.cache
def fraction(m, k):
    if k == 0:
        return whole(m)
    if m % 2 == 0:
        return fraction(m // 2, k - 1)
    return game((fraction(m - 1, k),), (fraction(m + 1, k),))


@functools.cache
def pile(n):
    smaller = tuple(pile(i) for i in range(n))
    return game(smaller, smaller)


@functools.cache
def negative(x):
    return least(game(tuple(negative(y) for y in rights_of(x)), tuple(negative(y) for y in lefts_of(x))))


@functools.cache
def plus(x, y):
    lefts = [plus(option, y) for option in lefts_of(x)] + [plus(x, option) for option in lefts_of(y)]
    rights = [plus(option, y) for option in rights_of(x)] + [plus(x, option) for option in rights_of(y)]
    return least(game(lefts, rights))


@functools.cache
def parts_of(x):
    parts = {x}
    for option in lefts_of(x) + rights_of(x):
        parts = parts | parts_of(option)
    return frozenset(parts)


def options_in_all(parts):
    return sum(len(lefts_of(x)) + len(rights_of(x)) for x in parts)


class Model:
    """What the document asks of the six calls, worked out in the plainest way."""

    def __init__(self):
        self.slots = [ZERO] * 16

    def room_for(self, games):
        parts = set()
        for x in self.slots + list(games):
            parts |= parts_of(x)
        return len(parts) <= 96 and options_in_all(parts) <= 1024

    def put(self, d, x, comes_to=()):
        if not self.room_for([x] + list(comes_to)):
            return -5
        self.slots[d] = x
        return 0

    def sums(self, x, y):
        """All sums of a part of x and a part of y, or None as soon as there's no room for those found."""
        found = set()
        for p in sorted(parts_of(x), key=birthday):
            for q in sorted(parts_of(y), key=birthday):
                total = plus(p, q)
                if total not in found:
                    found.add(total)
                    if not self.room_for(found):
                        return None
        return found

    def call(self, call):
        given = call[1:]
        if call[0] == 2:
            rows = (given[2:2 + given[1]], given[3 + given[1]:])
            return self.make(given[0], rows[0], rows[1])
        slots = {0: 1, 1: 1, 3: 2, 4: 3, 5: 2}[call[0]]
        if any(slot > 15 for slot in given[:slots]):
            return -1
        return [self.number, self.heap, None, self.minus, self.sum_of, self.times][call[0]](*given)

    def number(self, d, m, k):
        if k > 62:
            return -2
        if abs(m) >> k > 200:
            return -5
        return self.put(d, fraction(m, k))

    def heap(self, d, n):
        return self.put(d, pile(n)) if n < 60 else -5

    def make(self, d, lefts, rights):
        if d > 15 or len(lefts) > 32 or len(rights) > 32 or any(slot > 15 for slot in lefts + rights):
            return -1
        return self.put(d, least(game([self.slots[i] for i in lefts], [self.slots[i] for i in rights])))

    def minus(self, d, a):
        return self.put(d, negative(self.slots[a]))

    def sum_of(self, d, a, b):
        sums = self.sums(self.slots[a], self.slots[b])
        return -5 if sums is None else self.put(d, plus(self.slots[a], self.slots[b]), sums)

    def times(self, d, a, n):
        if n < -16 or n > 16:
            return -2
        if n == 0:
            return self.put(d, ZERO)
        one = self.slots[a] if n > 0 else negative(self.slots[a])
        total = one
        for _ in range(abs(n) - 1):
            if self.sums(total, one) is None:
                return -5
            total = plus(total, one)
        return self.put(d, total)
