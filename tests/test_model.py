"""Lines of calls by chance, but always the same ones, held against the model call by call."""

import random
import unittest

from tests.helper import Line, Model, firsts, heap, is_least, make, minus, number, sum_of, times

CALLS = ["number", "heap"] + ["make"] * 5 + ["minus", "sum", "sum", "sum", "times"]


def some_call(chance, slots):
    def slot():
        return 16 if chance.random() < 0.01 else chance.randrange(slots)

    def row():
        return [slot() for _ in range(chance.randrange(4))]

    which = chance.choice(CALLS)
    if which == "number":
        return number(slot(), chance.randint(-12, 12), chance.choice([0, 0, 1, 1, 2, 3, 4, 63]))
    if which == "heap":
        return heap(slot(), chance.randrange(8))
    if which == "make":
        return make(slot(), row(), row())
    if which == "minus":
        return minus(slot(), slot())
    if which == "sum":
        return sum_of(slot(), slot(), slot())
    return times(slot(), slot(), chance.randint(-17, 17))


class HeldAgainstTheModel(unittest.TestCase):
    def hold(self, seed, fill, slots, length):
        chance = random.Random(seed)
        line = Line()
        model = Model()
        calls = []
        asked = []
        for call in fill + [some_call(chance, slots) for _ in range(length)]:
            calls.append(call)
            asked.append(model.call(call))
            self.assertEqual(line.call(call), asked[-1], (seed, fill, calls))
            self.assertEqual(line.forms(), model.slots, (seed, fill, calls))
        self.assertTrue(all(is_least(form) for form in line.forms()))
        self.assertEqual(firsts(calls), asked)
        return asked

    def test_lines_with_much_room(self):
        for seed in range(60):
            self.hold(seed, [], [3, 5, 8, 15][seed % 4], 40)

    def test_lines_with_few_parts_left(self):
        given = []
        for seed in range(80):
            given += self.hold(1000 + seed, [number(15, -75 - seed % 20)], [3, 5, 8][seed % 3], 30)
        self.assertGreater(given.count(-5), 300)
        self.assertGreater(given.count(0), 1000)

    def test_lines_with_few_options_left(self):
        given = []
        for seed in range(40):
            given += self.hold(2000 + seed, [heap(15, 31), number(14, -20 - seed % 12)], [3, 5][seed % 2], 25)
        self.assertGreater(given.count(-5), 100)
        self.assertGreater(given.count(0), 500)


if __name__ == "__main__":
    unittest.main()
