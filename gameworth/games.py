"""The interface: a list of calls on one new object, and what they answer."""

from gameworth.refusals import NoGame, NoRoom, OutOfPlace, OutOfRange
from gameworth.slots import Slots

NUMBER = 0
HEAP = 1
MAKE = 2
MINUS = 3
SUM_OF = 4
TIMES = 5
OPTION = 6
ORDER = 7
SHAPE = 8
ROOM = 9
WRITE = 10
READ = 11

# By call: how many whole numbers it has, and how many rows behind these.
NUMBERS_OF_CALLS = (3, 2, 1, 2, 3, 3, 4, 2, 1, 0, 1, 1)
ROWS_OF_CALLS = (0, 0, 2, 0, 0, 0, 0, 0, 0, 0, 0, 1)


# Takes a list of calls piece by piece and leaves it as it is.
class Reader:
    def __init__(self, calls):
        self.calls = calls
        self.place = 0

    def has_more(self):
        return self.place < len(self.calls)

    def take_number(self):
        self.place += 1
        return self.calls[self.place - 1]

    def take_numbers(self, how_many):
        self.place += how_many
        return self.calls[self.place - how_many:self.place]

    def take_row(self):
        how_many = self.take_number()
        return self.take_numbers(how_many)


def put_game(slots, call, numbers, rows):
    if call == NUMBER:
        slots.put_number(numbers[0], numbers[1], numbers[2])
    elif call == HEAP:
        slots.put_heap(numbers[0], numbers[1])
    elif call == MAKE:
        slots.put_made(numbers[0], rows[0], rows[1])
    elif call == MINUS:
        slots.put_minus(numbers[0], numbers[1])
    elif call == SUM_OF:
        slots.put_sum(numbers[0], numbers[1], numbers[2])
    elif call == TIMES:
        slots.put_times(numbers[0], numbers[1], numbers[2])
    elif call == OPTION:
        slots.put_option(numbers[0], numbers[1], numbers[2], numbers[3])
    elif call == READ:
        slots.put_read(numbers[0], rows[0])


def carry_out(slots, call, numbers, rows):
    if call == ORDER:
        return [slots.tell_order(numbers[0], numbers[1])]
    if call == SHAPE:
        return [0] + slots.tell_shape(numbers[0])
    if call == ROOM:
        return [0] + slots.tell_room()
    if call == WRITE:
        text = slots.tell_bytes(numbers[0])
        return [0, len(text)] + text
    put_game(slots, call, numbers, rows)
    return [0]


def answer(slots, call, numbers, rows):
    try:
        answered = carry_out(slots, call, numbers, rows)
    except OutOfPlace:
        answered = [-1]
    except OutOfRange:
        answered = [-2]
    except NoGame:
        answered = [-3]
    except NoRoom:
        answered = [-5]
    slots.tidy()
    return answered


def answers(calls):
    reader = Reader(calls)
    slots = Slots()
    given = []
    while reader.has_more():
        call = reader.take_number()
        numbers = reader.take_numbers(NUMBERS_OF_CALLS[call])
        rows = [reader.take_row() for row in range(ROWS_OF_CALLS[call])]
        answered = answer(slots, call, numbers, rows)
        given.append(len(answered))
        given.extend(answered)
    return given
