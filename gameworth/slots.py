"""The object: 16 slots with a form each, and the calls on them."""

from gameworth.making import heap_form, minus_form, number_form, sum_form, zero_form
from gameworth.refusals import OutOfPlace, OutOfRange
from gameworth.table import Table, inside_of

SLOTS = 16
LONGEST_ROW = 32
MOST_HALVINGS = 62
MOST_TIMES = 16


def check_slots(numbers):
    for number in numbers:
        if number >= SLOTS:
            raise OutOfPlace()


def check_row(row):
    if len(row) > LONGEST_ROW:
        raise OutOfPlace()
    check_slots(row)


# Each call writes its slot as its last step, so that a refusal leaves all slots as they were.
class Slots:
    def __init__(self):
        self.table = Table()
        self.forms = [zero_form(self.table)] * SLOTS

    # What is left in the table by a call and is no slot's part would take room from the next call.
    def tidy(self):
        self.table.keep_only(inside_of(self.forms))

    def write_number(self, d, m, k):
        check_slots([d])
        if k > MOST_HALVINGS:
            raise OutOfRange()
        self.forms[d] = number_form(self.table, m, k)

    def write_heap(self, d, n):
        check_slots([d])
        self.forms[d] = heap_form(self.table, n)

    def write_made(self, d, left_slots, right_slots):
        check_slots([d])
        check_row(left_slots)
        check_row(right_slots)
        lefts = [self.forms[slot] for slot in left_slots]
        rights = [self.forms[slot] for slot in right_slots]
        self.forms[d] = self.table.form_of(lefts, rights)

    def write_minus(self, d, a):
        check_slots([d, a])
        self.forms[d] = minus_form(self.table, self.forms[a])

    def write_sum(self, d, a, b):
        check_slots([d, a, b])
        self.forms[d] = sum_form(self.table, self.forms[a], self.forms[b])

    def write_times(self, d, a, n):
        check_slots([d, a])
        if abs(n) > MOST_TIMES:
            raise OutOfRange()
        self.forms[d] = self.times_form(self.forms[a], n)

    def times_form(self, game, n):
        if n == 0:
            return zero_form(self.table)
        if n < 0:
            game = minus_form(self.table, game)
        total = game
        for step in range(abs(n) - 1):
            # What the sums before came to isn't counted.
            self.table.keep_only(inside_of(self.forms + [total, game]))
            total = sum_form(self.table, total, game)
        return total
