"""Lines of calls by chance, but always the same ones, held against the model call by call."""

import random
import unittest

from tests.helper import (Line, Model, answers, bytes_of, each, heap, is_least, joined, make, minus, number, option, order,
                          read, room, shape, sum_of, times, write)

CALLS = (["number", "heap"] + ["make"] * 5 + ["minus", "sum", "sum", "sum", "times", "option", "option", "order", "order",
                                              "shape", "room", "write", "read", "read"])


def some_text(chance, model):
    """Mostly the bytes of a game that a slot has or had, now and then with a byte changed, left out or added."""
    text = list(chance.choice(model.texts))
    changes = chance.choice([0, 0, 0, 1, 2, 3])
    if changes == 1:
        text[chance.randrange(len(text))] = chance.choice([0, 1, 2, 3, 4, 255])
    elif changes == 2:
        text.pop(chance.randrange(len(text)))
    elif changes == 3:
        text.insert(chance.randrange(len(text)), chance.randrange(3))
    return text


def some_call(chance, slots, model):
    def slot():
        return 16 if chance.random() < 0.01 else chance.randrange(slots)

    def row():
        return [slot() for _ in range(chance.randrange(4))]

    which = chance.choice(CALLS)
    if which == "number":
        return number(slot(), chance.randint(-12, 12), chance.choice([0, 0, 1, 1, 2, 3, 4, 63]))
    if which == "heap":
        return heap(slot(), chance.randrange(8))
    if which == "make":
        return make(slot(), row(), row())
    if which == "minus":
        return minus(slot(), slot())
    if which == "sum":
        return sum_of(slot(), slot(), slot())
    if which == "times":
        return times(slot(), slot(), chance.randint(-17, 17))
    if which == "option":
        return option(slot(), slot(), chance.choice([0, 0, 0, 1, 1, 1, 2]), chance.choice([0, 0, 0, 1, 2]))
    if which == "read":
        return read(slot(), some_text(chance, model))
    return {"order": order(slot(), slot()), "shape": shape(slot()), "room": room(), "write": write(slot())}[which]


class Remembering(Model):
    """The model, and the bytes of the games that its slots have and had."""

    def __init__(self):
        super().__init__()
        self.texts = [bytes_of(self.slots[0])]

    def put(self, d, x, comes_to=()):
        given = super().put(d, x, comes_to)
        if given == [0]:
            self.texts.append(bytes_of(x))
        return given


class HeldAgainstTheModel(unittest.TestCase):
    def hold(self, seed, fill, slots, length):
        chance = random.Random(seed)
        line = Line()
        model = Remembering()
        calls = []
        asked = []
        for step in range(len(fill) + length):
            call = fill[step] if step < len(fill) else some_call(chance, slots, model)
            calls.append(call)
            asked.append(model.ask(call))
            self.assertEqual(line.ask(call), asked[-1], (seed, fill, calls))
            self.assertEqual(line.forms(), model.slots, (seed, fill, calls))
        self.assertTrue(all(is_least(form) for form in line.forms()))
        self.assertEqual(each(calls), asked)
        self.hold_texts(line)
        return [given[0] for given in asked]

    def hold_texts(self, line):
        """That each slot's bytes make the same game in another slot of the same object."""
        for slot in range(16):
            form = line.form(slot)
            other = (slot + 5) % 16
            self.assertEqual(line.ask(read(other, line.ask(write(slot))[2:])), [0])
            self.assertEqual(line.ask(order(slot, other)), [0])
            self.assertEqual([line.form(slot), line.form(other)], [form, form])

    def test_lines_with_much_room(self):
        given = []
        for seed in range(60):
            given += self.hold(seed, [], [3, 5, 8, 15][seed % 4], 60)
        self.assertTrue(all(given.count(one) > 50 for one in (0, 1, 2, 3, -1, -2, -3)))

    def test_lines_with_few_parts_left(self):
        given = []
        for seed in range(120):
            given += self.hold(1000 + seed, [number(15, -80 - seed % 15)], [3, 5, 8][seed % 3], 50)
        self.assertGreater(given.count(-5), 300)
        self.assertGreater(given.count(0), 1000)

    def test_lines_with_few_options_left(self):
        given = []
        for seed in range(40):
            given += self.hold(2000 + seed, [heap(15, 31), number(14, -20 - seed % 12)], [3, 5][seed % 2], 35)
        self.assertGreater(given.count(-5), 100)
        self.assertGreater(given.count(0), 500)


class LongLines(unittest.TestCase):
    def hold(self, calls, model):
        self.assertLessEqual(len(calls), 400)
        line = joined(calls)
        self.assertLessEqual(len(line), 16000)
        asked = [model.ask(call) for call in calls]
        self.assertEqual(answers(line), joined([[len(given)] + given for given in asked]))
        return asked

    def some_calls(self, seed, how_many, slots):
        chance = random.Random(seed)
        model = Remembering()
        calls = []
        for _ in range(how_many):
            calls.append(some_call(chance, slots, model))
            model.ask(calls[-1])
        return calls

    def test_400_calls(self):
        for seed in range(3000, 3006):
            calls = self.some_calls(seed, 400, [4, 8, 15][seed % 3])
            while len(joined(calls)) > 16000:
                calls.pop()
            asked = self.hold(calls, Model())
            self.assertGreater(len(asked), 250)
            self.assertEqual({call[0] for call in calls}, set(range(12)))

    def test_400_calls_that_ask_alone(self):
        calls = [[order(3, call % 17), shape(call % 17), room(), write(call % 17)][call % 4] for call in range(400)]
        self.hold(calls, Model())
        self.hold([heap(3, 31), number(4, 32)] + calls[2:], Model())

    def test_16000_numbers(self):
        # Three texts of as many bytes as there may be, long rows, and calls of all kinds until it's full.
        long_texts = [read(1, [0x47] * 5000), read(2, [0x47, 96, 0] + [0] * 4997)]
        rows = [make(call % 16, [call % 16] * 32, [15 - call % 16] * 32) for call in range(30)]
        calls = [heap(0, 5), number(3, 7, 2)] + long_texts + rows + [make(0, [0] * 100, [1] * 100)] * 4
        for call in self.some_calls(4000, 250, 8):
            if len(joined(calls)) + len(call) <= 15990:
                calls.append(call)
        calls.append(make(1, [2] * (16000 - len(joined(calls)) - 4), []))
        self.assertEqual(len(joined(calls)), 16000)
        self.assertEqual({call[0] for call in calls}, set(range(12)))
        self.hold(calls, Model())

    def test_16000_numbers_and_400_calls(self):
        calls = [make(call % 16, [(call * 7) % 16] * 18, [(call * 3) % 16] * 18) for call in range(400)]
        self.assertEqual(len(joined(calls)), 16000)
        self.hold(calls, Model())
        texts = [bytes_of(form) for form in Line([heap(0, 2), number(1, 3, 2), make(2, [0, 1], [3])]).forms()[:4]]
        calls = [read(call % 16, texts[call % 4]) if call % 2 else write(call % 16) for call in range(400)]
        self.hold(calls, Model())

    def test_long_texts_that_are_written_and_read(self):
        text = bytes_of(Line([heap(0, 31)]).form(0))
        calls = [read(call, text) for call in range(7)] + [write(call) for call in range(16)] * 24 + [room()]
        self.assertLessEqual(len(joined(calls)), 16000)
        asked = self.hold(calls, Model())
        self.assertEqual(asked[7], [0, len(text)] + text)


if __name__ == "__main__":
    unittest.main()
