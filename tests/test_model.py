"""Lines made by chance, always the same ones, answered by the program as by the slow model."""

import random
import unittest

from tests.helper import (BIGGEST, book, day, hang, harm, home, lend, light, move, place, said, show, start, thing,
                          unbook)
from tests.model import Model


class Chance:
    """Calls whose numbers are mostly of things that are there, so that many are done."""

    def __init__(self, seed, lights, step):
        self.random = random.Random(seed)
        self.lights = lights
        self.step = step

    def number(self, below):
        if self.random.randrange(25) == 0:
            return self.random.choice([below, below + 1, BIGGEST])
        return self.random.randrange(max(below, 1))

    def of_kind(self, model, kind):
        found = [k for k, kept in enumerate(model.places) if kept["kind"] == kind]
        return self.random.choice(found) if found and self.random.randrange(8) else self.number(len(model.places))

    def units(self):
        return self.random.choice(self.lights + [10001] if self.random.randrange(20) == 0 else self.lights)

    def name(self):
        return "".join(self.random.choice("abc") for k in range(self.random.randrange(1, 4)))

    def limit(self):
        return self.random.choice([0, 1, 50, 200, 1000, 5000, 20000, 1000000, 1000000])

    def call(self, model):
        places, things = len(model.places), len(model.things)
        later = model.today + self.random.randrange(4 * self.step)
        makers = [
            lambda: place(self.number(places), self.random.randrange(4), self.random.choice([1, 2, 3, 24, 25]),
                          self.units()),
            lambda: light(self.number(places), self.units()), lambda: light(self.number(places), self.units()),
            lambda: thing(self.name(), self.random.randrange(8), self.limit(), self.number(places)),
            lambda: thing(self.name(), self.random.randrange(8), self.limit(), self.number(places)),
            lambda: move(self.number(things), self.number(places)),
            lambda: move(self.number(things), self.number(places)),
            lambda: day(self.random.randrange(self.step)),
            lambda: harm(self.number(things), self.random.choice([0, 0, 0, 1, 2, 2, 3, 6])),
            lambda: lend(self.number(things), self.of_kind(model, 3), later),
            lambda: home(self.number(things), self.number(places)),
            lambda: show(self.of_kind(model, 1), later, later + self.random.randrange(3 * self.step)),
            lambda: show(self.of_kind(model, 1), model.today, model.today + self.random.randrange(self.step)),
            lambda: book(self.number(len(model.shows)), self.number(things)),
            lambda: book(self.number(len(model.shows)), self.number(things)),
            lambda: book(self.number(len(model.shows)), self.number(things)),
            lambda: unbook(self.number(len(model.shows)), self.number(things)),
            lambda: hang(self.number(len(model.shows))),
        ]
        # No show goes yet: now and then all begins anew, so that the list of shows isn't full for long.
        return self.random.choice(makers)() if self.random.randrange(150) else start()


def line_with_answers(seed, lights, step, length):
    chance = Chance(seed, lights, step)
    model = Model()
    calls = [start()]
    wanted = [0]
    for k in range(length - 1):
        calls.append(chance.call(model))
        wanted.append(model.answer(calls[-1]))
    return calls, wanted


class ModelTest(unittest.TestCase):
    def compare(self, seeds, lights, step, length):
        seen = set()
        for seed in seeds:
            calls, wanted = line_with_answers(seed, lights, step, length)
            told = [answer for answer, in said(calls)]
            for k, call in enumerate(calls):
                self.assertEqual(told[k], wanted[k], f"seed {seed}, call {k}: {call}")
            seen |= {(call[0], min(answer, 1)) for call, answer in zip(calls, wanted)}
        return seen

    def test_short_times(self):
        seen = self.compare(range(60), [0, 1, 2, 5, 10, 50], 6, 500)
        # The comparison is worth something only if nearly every answer comes up.
        for pair in ((1, -28), (3, -12), (3, -17), (4, -12), (4, -16), (4, -17), (4, -61), (6, 1), (7, 0), (7, -12),
                     (7, -16), (7, -17), (7, -61), (8, 0), (8, -12), (8, -61), (9, -16), (9, -28), (10, 1), (10, -12),
                     (10, -15), (10, -16), (10, -17), (10, -33), (11, 0), (11, 1), (11, -15), (12, 1), (12, -12),
                     (12, -13), (12, -16), (12, -17), (12, -61)):
            self.assertIn(pair, seen)

    def test_long_times(self):
        self.compare(range(100, 115), [0, 1, 7, 100, 5000, 10000], 120, 400)


if __name__ == "__main__":
    unittest.main()
