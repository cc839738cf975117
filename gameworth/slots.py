"""The object: 16 slots with a form each, and the calls on them."""

from gameworth.making import heap_form, minus_form, number_form, sum_form, zero_form
from gameworth.refusals import OutOfPlace, OutOfRange
from gameworth.table import LEFT, MOST_OPTIONS, RIGHT, Table, inside_of, is_at_most
from gameworth.texts import bytes_of, form_of_text

SLOTS = 16
SIDES = 2
LONGEST_ROW = 32
MOST_HALVINGS = 62
MOST_TIMES = 16

SAME = 0
ABOVE = 1
BELOW = 2
NEITHER = 3


def check_slots(numbers):
    for number in numbers:
        if number >= SLOTS:
            raise OutOfPlace()


def check_side(side):
    if side >= SIDES:
        raise OutOfPlace()


def check_row(row):
    if len(row) > LONGEST_ROW:
        raise OutOfPlace()
    check_slots(row)


# Each call that makes a game puts it into its slot as its last step, so that a refusal leaves all slots as they were.
class Slots:
    def __init__(self):
        self.table = Table(MOST_OPTIONS)
        self.forms = [zero_form(self.table)] * SLOTS

    # What is left in the table by a call and is no slot's part would take room from the next call.
    def tidy(self):
        self.table.keep_only(inside_of(self.forms))

    def put_number(self, d, m, k):
        check_slots([d])
        if k > MOST_HALVINGS:
            raise OutOfRange()
        self.forms[d] = number_form(self.table, m, k)

    def put_heap(self, d, n):
        check_slots([d])
        self.forms[d] = heap_form(self.table, n)

    def put_made(self, d, left_slots, right_slots):
        check_slots([d])
        check_row(left_slots)
        check_row(right_slots)
        lefts = [self.forms[slot] for slot in left_slots]
        rights = [self.forms[slot] for slot in right_slots]
        self.forms[d] = self.table.form_of(lefts, rights)

    def put_minus(self, d, a):
        check_slots([d, a])
        self.forms[d] = minus_form(self.table, self.forms[a])

    def put_sum(self, d, a, b):
        check_slots([d, a, b])
        self.forms[d] = sum_form(self.table, self.forms[a], self.forms[b])

    def put_times(self, d, a, n):
        check_slots([d, a])
        if abs(n) > MOST_TIMES:
            raise OutOfRange()
        self.forms[d] = self.times_form(self.forms[a], n)

    def times_form(self, game, n):
        if n == 0:
            return zero_form(self.table)
        if n < 0:
            game = minus_form(self.table, game)
        total = game
        for step in range(abs(n) - 1):
            # What the sums before came to isn't counted.
            self.table.keep_only(inside_of(self.forms + [total, game]))
            total = sum_form(self.table, total, game)
        return total

    # There's always room for an option: it is a part of a slot's game already.
    def put_option(self, d, a, side, i):
        check_slots([d, a])
        check_side(side)
        row = self.forms[a].rows[side]
        if i >= len(row):
            raise OutOfRange()
        self.forms[d] = row[i]

    def put_read(self, d, text):
        check_slots([d])
        self.forms[d] = form_of_text(self.table, text)

    # Games worth the same are the same part.
    def tell_order(self, a, b):
        check_slots([a, b])
        x = self.forms[a]
        y = self.forms[b]
        if x.bit == y.bit:
            return SAME
        if is_at_most(y, x):
            return ABOVE
        if is_at_most(x, y):
            return BELOW
        return NEITHER

    def tell_shape(self, a):
        check_slots([a])
        form = self.forms[a]
        parts = self.table.parts_of(form)
        options_in_all = sum([part.option_count() for part in parts])
        return [len(parts), options_in_all, form.birthday, len(form.rows[LEFT]), len(form.rows[RIGHT])]

    # The table is tidy before each call: it has the parts of the slots' games and no others.
    def tell_room(self):
        return [len(self.table.parts), self.table.options_in_all]

    def tell_bytes(self, a):
        check_slots([a])
        return bytes_of(self.forms[a])
