"""The interface: a list of calls on one new object, and what they answer."""

from gameworth.refusals import NoRoom, OutOfPlace, OutOfRange
from gameworth.slots import Slots

NUMBER = 0
HEAP = 1
MAKE = 2
MINUS = 3
SUM_OF = 4
TIMES = 5

# By call: how many whole numbers it has, and how many rows behind these.
NUMBERS_OF_CALLS = (3, 2, 1, 2, 3, 3)
ROWS_OF_CALLS = (0, 0, 2, 0, 0, 0)


# Takes a list of calls piece by piece and leaves it as it is.
class Reader:
    def __init__(self, calls):
        self.calls = calls
        self.place = 0

    def has_more(self):
        return self.place < len(self.calls)

    def take_number(self):
        self.place += 1
        return self.calls[self.place - 1]

    def take_numbers(self, how_many):
        self.place += how_many
        return self.calls[self.place - how_many:self.place]

    def take_row(self):
        how_many = self.take_number()
        return self.take_numbers(how_many)


def carry_out(slots, call, numbers, rows):
    if call == NUMBER:
        slots.write_number(numbers[0], numbers[1], numbers[2])
    elif call == HEAP:
        slots.write_heap(numbers[0], numbers[1])
    elif call == MAKE:
        slots.write_made(numbers[0], rows[0], rows[1])
    elif call == MINUS:
        slots.write_minus(numbers[0], numbers[1])
    elif call == SUM_OF:
        slots.write_sum(numbers[0], numbers[1], numbers[2])
    else:
        slots.write_times(numbers[0], numbers[1], numbers[2])
    return [0]


def answer(slots, call, numbers, rows):
    try:
        answered = carry_out(slots, call, numbers, rows)
    except OutOfPlace:
        answered = [-1]
    except OutOfRange:
        answered = [-2]
    except NoRoom:
        answered = [-5]
    slots.tidy()
    return answered


def answers(calls):
    reader = Reader(calls)
    slots = Slots()
    given = []
    while reader.has_more():
        call = reader.take_number()
        numbers = reader.take_numbers(NUMBERS_OF_CALLS[call])
        rows = [reader.take_row() for row in range(ROWS_OF_CALLS[call])]
        answered = answer(slots, call, numbers, rows)
        given.append(len(answered))
        given.extend(answered)
    return given
