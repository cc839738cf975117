"""What the tests share: short ways to write calls, a look into the slots, and a plain model to hold answers against."""

import functools

from gameworth.games import ROWS_OF_CALLS, Reader, NUMBERS_OF_CALLS, answer, answers
from gameworth.slots import Slots


def number(d, m, k=0):
    return [0, d, m, k]


def heap(d, n):
    return [1, d, n]


def make(d, lefts, rights):
    return [2, d, len(lefts)] + lefts + [len(rights)] + rights


def minus(d, a):
    return [3, d, a]


def sum_of(d, a, b):
    return [4, d, a, b]


def times(d, a, n):
    return [5, d, a, n]


def option(d, a, side, i):
    return [6, d, a, side, i]


def order(a, b):
    return [7, a, b]


def shape(a):
    return [8, a]


def room():
    return [9]


def write(a):
    return [10, a]


def read(d, text):
    return [11, d, len(text)] + text


def joined(calls):
    line = []
    for call in calls:
        line = line + call
    return line


def each(calls):
    """What each call answers, a list of numbers each."""
    given = answers(joined(calls))
    lists = []
    place = 0
    while place < len(given):
        lists.append(given[place + 1:place + 1 + given[place]])
        place += 1 + given[place]
    if place != len(given) or len(lists) != len(calls):
        raise AssertionError(f"not an answer for each of {len(calls)} calls: {given}")
    return lists


def last(calls):
    return each(calls)[-1]


def firsts(calls):
    """The first number answered by each call, of calls that answer one number each."""
    lists = each(calls)
    if any(len(given) != 1 for given in lists):
        raise AssertionError(f"not one number a call: {lists}")
    return [given[0] for given in lists]


def text_after(calls, slot):
    """The bytes that write gives for the slot behind these calls."""
    given = last(calls + [write(slot)])
    if given[0] != 0 or given[1] != len(given) - 2:
        raise AssertionError(f"not 0, how many bytes and they: {given}")
    return given[2:]


def text_of_rows(rows):
    """The bytes that tell these rows of numbers, whether they're a game's or not."""
    numbers = [len(rows)]
    for lefts, rights in rows:
        numbers += [len(lefts), len(rights)] + list(lefts) + list(rights)
    return [0x47] + [byte for number in numbers for byte in (number % 256, number // 256)]


def held(slots, slot):
    """A slot's form as the model's game, rows as they stand."""
    known = {}

    def game_of(part):
        if part.bit not in known:
            rows = [tuple(game_of(option) for option in row) for row in part.rows]
            known[part.bit] = game(rows[0], rows[1])
        return known[part.bit]

    return game_of(slots.forms[slot])


class Line:
    """One object and the calls on it, one at a time, with a look into its slots between them."""

    def __init__(self, calls=()):
        self.slots = Slots()
        self.given = [self.call(call) for call in calls]

    def ask(self, call):
        """All numbers that the call answers."""
        reader = Reader(call)
        which = reader.take_number()
        numbers = reader.take_numbers(NUMBERS_OF_CALLS[which])
        rows = [reader.take_row() for _ in range(ROWS_OF_CALLS[which])]
        return answer(self.slots, which, numbers, rows)

    def call(self, call):
        return self.ask(call)[0]

    def form(self, slot):
        form = held(self.slots, slot)
        check_text(form, self.ask(write(slot)))
        return form

    def forms(self):
        return [self.form(slot) for slot in range(16)]


# By form: what write gave for it when a test made it first.
WRITTEN = {}


def check_text(form, given):
    """That write gives a form's bytes, each time the same, and that read makes it from them in a new object."""
    if form not in WRITTEN:
        text = bytes_of(form)
        if given != [0, len(text)] + text:
            raise AssertionError(f"not the bytes {text}: {given}")
        line = Line([read(7, text)])
        if line.given != [0] or held(line.slots, 7) != form:
            raise AssertionError(f"not read as they were written: {text}")
        WRITTEN[form] = given
    if given != WRITTEN[form]:
        raise AssertionError(f"not the bytes of before {WRITTEN[form]}: {given}")


# The model: a game is a number that stands for its two rows, each pair of rows once.
# All is written as the document's definitions are, with recursion, and nothing is ever dropped.

GAMES = []
NUMBER_OF_GAME = {}


def game(lefts, rights):
    rows = (tuple(lefts), tuple(rights))
    if rows not in NUMBER_OF_GAME:
        NUMBER_OF_GAME[rows] = len(GAMES)
        GAMES.append(rows)
    return NUMBER_OF_GAME[rows]


def lefts_of(x):
    return GAMES[x][0]


def rights_of(x):
    return GAMES[x][1]


@functools.cache
def at_most(x, y):
    if any(at_most(y, option) for option in lefts_of(x)):
        return False
    return not any(at_most(option, x) for option in rights_of(y))


def same_worth(x, y):
    return at_most(x, y) and at_most(y, x)


@functools.cache
def birthday(x):
    return max((birthday(option) + 1 for option in lefts_of(x) + rights_of(x)), default=0)


def compare_rows(xs, ys):
    for x, y in zip(xs, ys):
        if x != y:
            return compare(x, y)
    return len(xs) - len(ys)


@functools.cache
def compare(x, y):
    """Below 0 if x comes before y in the order of games, 0 if they are the same."""
    return (birthday(x) - birthday(y)
            or compare_rows(lefts_of(x), lefts_of(y))
            or compare_rows(rights_of(x), rights_of(y)))


def in_order(row):
    return tuple(sorted(set(row), key=functools.cmp_to_key(compare)))


def left_comes_back(g, x):
    return next((y for y in rights_of(x) if at_most(y, g)), None)


def right_comes_back(g, x):
    return next((y for y in lefts_of(x) if at_most(g, y)), None)


@functools.cache
def least(g):
    """The form of a game whose options are least: one step nearer, and so on until there is none left."""
    lefts = in_order(lefts_of(g))
    rights = in_order(rights_of(g))
    for x in lefts:
        others = [y for y in lefts if y != x]
        if any(at_most(x, y) for y in others):
            return least(game(others, rights))
        back = left_comes_back(g, x)
        if back is not None:
            return least(game(others + list(lefts_of(back)), rights))
    for x in rights:
        others = [y for y in rights if y != x]
        if any(at_most(y, x) for y in others):
            return least(game(lefts, others))
        back = right_comes_back(g, x)
        if back is not None:
            return least(game(lefts, others + list(rights_of(back))))
    return game(lefts, rights)


@functools.cache
def is_least(g):
    """The document's definition, word by word."""
    lefts = lefts_of(g)
    rights = rights_of(g)
    if not all(is_least(x) for x in lefts + rights):
        return False
    for i, x in enumerate(lefts):
        if any(i != j and at_most(x, y) for j, y in enumerate(lefts)) or left_comes_back(g, x) is not None:
            return False
    for i, x in enumerate(rights):
        if any(i != j and at_most(y, x) for j, y in enumerate(rights)) or right_comes_back(g, x) is not None:
            return False
    return all(compare(x, y) < 0 for row in (lefts, rights) for x, y in zip(row, row[1:]))


ZERO = game((), ())


@functools.cache
def whole(n):
    if n == 0:
        return ZERO
    return game((whole(n - 1),), ()) if n > 0 else game((), (whole(n + 1),))


@functools.cache
def fraction(m, k):
    if k == 0:
        return whole(m)
    if m % 2 == 0:
        return fraction(m // 2, k - 1)
    return game((fraction(m - 1, k),), (fraction(m + 1, k),))


@functools.cache
def pile(n):
    smaller = tuple(pile(i) for i in range(n))
    return game(smaller, smaller)


@functools.cache
def negative(x):
    return least(game(tuple(negative(y) for y in rights_of(x)), tuple(negative(y) for y in lefts_of(x))))


@functools.cache
def plus(x, y):
    lefts = [plus(option, y) for option in lefts_of(x)] + [plus(x, option) for option in lefts_of(y)]
    rights = [plus(option, y) for option in rights_of(x)] + [plus(x, option) for option in rights_of(y)]
    return least(game(lefts, rights))


@functools.cache
def parts_of(x):
    parts = {x}
    for option in lefts_of(x) + rights_of(x):
        parts = parts | parts_of(option)
    return frozenset(parts)


def options_in_all(parts):
    return sum(len(lefts_of(x)) + len(rights_of(x)) for x in parts)


def parts_in_turn(x):
    """The parts as they're come to first."""
    turn = []

    def come_to(part):
        if part not in turn:
            turn.append(part)
            for y in lefts_of(part) + rights_of(part):
                come_to(y)

    come_to(x)
    return turn


def bytes_of(x):
    turn = parts_in_turn(x)
    return text_of_rows([[[turn.index(y) for y in row] for row in GAMES[part]] for part in turn])


class NoGame(Exception):
    pass


def rows_told(text):
    """The rows of numbers that a text tells, for each of its parts."""
    left = list(text)

    def take():
        if len(left) < 2:
            raise NoGame
        return left.pop(0) + 256 * left.pop(0)

    if left[:1] != [0x47]:
        raise NoGame
    left.pop(0)
    rows = []
    for _ in range(take()):
        counts = [take(), take()]
        rows.append([[take() for _ in range(count)] for count in counts])
    if left:
        raise NoGame
    return rows


def game_told(rows):
    """The game of part 0, if no part leads to itself or to one that there isn't."""
    made = {}

    def made_from(part, way):
        if part in way or part >= len(rows):
            raise NoGame
        if part not in made:
            made[part] = game(*[[made_from(y, way + [part]) for y in row] for row in rows[part]])
        return made[part]

    return made_from(0, [])


def game_of_bytes(text):
    """The least game with these bytes and at most 96 parts, or None."""
    try:
        rows = rows_told(text)
        made = game_told(rows)
    except NoGame:
        return None
    return made if len(rows) <= 96 and is_least(made) and bytes_of(made) == text else None


class Model:
    """What the document asks of the calls, worked out in the plainest way."""

    def __init__(self):
        self.slots = [ZERO] * 16

    def room_for(self, games):
        parts = set()
        for x in self.slots + list(games):
            parts |= parts_of(x)
        return len(parts) <= 96 and options_in_all(parts) <= 1024

    def put(self, d, x, comes_to=()):
        if not self.room_for([x] + list(comes_to)):
            return [-5]
        self.slots[d] = x
        return [0]

    def sums(self, x, y):
        """All sums of a part of x and a part of y, or None as soon as there's no room for those found."""
        found = set()
        for p in sorted(parts_of(x), key=birthday):
            for q in sorted(parts_of(y), key=birthday):
                total = plus(p, q)
                if total not in found:
                    found.add(total)
                    if not self.room_for(found):
                        return None
        return found

    def call(self, call):
        return self.ask(call)[0]

    def ask(self, call):
        """All numbers that the call answers."""
        given = call[1:]
        if call[0] == 2:
            return self.make(given[0], given[2:2 + given[1]], given[3 + given[1]:])
        slots = {0: 1, 1: 1, 3: 2, 4: 3, 5: 2, 6: 2, 7: 2, 8: 1, 9: 0, 10: 1, 11: 1}[call[0]]
        if any(slot > 15 for slot in given[:slots]):
            return [-1]
        if call[0] == 11:
            return self.read(given[0], given[2:])
        return [self.number, self.heap, None, self.minus, self.sum_of, self.times, self.option, self.order, self.shape,
                self.room, self.write][call[0]](*given)

    def number(self, d, m, k):
        if k > 62:
            return [-2]
        if abs(m) >> k > 200:
            return [-5]
        return self.put(d, fraction(m, k))

    def heap(self, d, n):
        return self.put(d, pile(n)) if n < 60 else [-5]

    def make(self, d, lefts, rights):
        if d > 15 or len(lefts) > 32 or len(rights) > 32 or any(slot > 15 for slot in lefts + rights):
            return [-1]
        return self.put(d, least(game([self.slots[i] for i in lefts], [self.slots[i] for i in rights])))

    def minus(self, d, a):
        return self.put(d, negative(self.slots[a]))

    def sum_of(self, d, a, b):
        sums = self.sums(self.slots[a], self.slots[b])
        return [-5] if sums is None else self.put(d, plus(self.slots[a], self.slots[b]), sums)

    def times(self, d, a, n):
        if n < -16 or n > 16:
            return [-2]
        if n == 0:
            return self.put(d, ZERO)
        one = self.slots[a] if n > 0 else negative(self.slots[a])
        total = one
        for _ in range(abs(n) - 1):
            if self.sums(total, one) is None:
                return [-5]
            total = plus(total, one)
        return self.put(d, total)

    def option(self, d, a, side, i):
        if side > 1:
            return [-1]
        row = GAMES[self.slots[a]][side]
        return self.put(d, row[i]) if i < len(row) else [-2]

    def order(self, a, b):
        x, y = self.slots[a], self.slots[b]
        return [{(True, True): 0, (False, True): 1, (True, False): 2, (False, False): 3}[at_most(x, y), at_most(y, x)]]

    def shape(self, a):
        x = self.slots[a]
        return [0, len(parts_of(x)), options_in_all(parts_of(x)), birthday(x), len(lefts_of(x)), len(rights_of(x))]

    def room(self):
        parts = set().union(*[parts_of(x) for x in self.slots])
        return [0, len(parts), options_in_all(parts)]

    def write(self, a):
        text = bytes_of(self.slots[a])
        return [0, len(text)] + text

    def read(self, d, text):
        made = game_of_bytes(text)
        return [-3] if made is None else self.put(d, made)
