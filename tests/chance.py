"""Lines of calls made by chance, always the same ones."""

import random

from tests.grammar import Asker
from tests.helper import (BIGGEST, book, cancel, day, dose, down, entry, find, hang, harm, home, inside, lend, light, move,
                          must, overdue, place, show, start, state, thing, unbook, until, where, write)
from tests.model import Model


class Chance:
    """Calls whose numbers are mostly of things that are there, so that many are done."""

    def __init__(self, seed, lights, step):
        self.random = random.Random(seed)
        self.lights = lights
        self.step = step
        self.asker = Asker(self.random)

    def number(self, below):
        if self.random.randrange(25) == 0:
            return self.random.choice([below, below + 1, BIGGEST])
        return self.random.randrange(max(below, 1))

    def of_kind(self, model, kind):
        found = [k for k, kept in enumerate(model.places) if kept["kind"] == kind]
        return self.random.choice(found) if found and self.random.randrange(8) else self.number(len(model.places))

    def show(self, model):
        return self.random.choice(sorted(model.shows)) if model.shows and self.random.randrange(20) else self.number(6)

    def units(self):
        return self.random.choice(self.lights + [10001] if self.random.randrange(20) == 0 else self.lights)

    def name(self):
        return "".join(self.random.choice("abc") for k in range(self.random.randrange(1, 4)))

    def limit(self):
        return self.random.choice([0, 1, 50, 200, 1000, 5000, 20000, 1000000, 1000000])

    def call(self, model):
        places, things = len(model.places), len(model.things)
        later = model.today + self.random.randrange(4 * self.step)
        makers = [
            lambda: place(self.number(places), self.random.randrange(4), self.random.choice([1, 2, 3, 24, 25]),
                          self.units()),
            lambda: light(self.number(places), self.units()), lambda: light(self.number(places), self.units()),
            lambda: thing(self.name(), self.random.randrange(8), self.limit(), self.number(places)),
            lambda: thing(self.name(), self.random.randrange(8), self.limit(), self.number(places)),
            lambda: move(self.number(things), self.number(places)),
            lambda: move(self.number(things), self.number(places)),
            lambda: day(self.random.randrange(self.step)),
            lambda: harm(self.number(things), self.random.choice([0, 0, 0, 1, 2, 2, 3, 6])),
            lambda: lend(self.number(things), self.of_kind(model, 3), later),
            lambda: home(self.number(things), self.number(places)),
            lambda: show(self.of_kind(model, 1), later, later + self.random.randrange(3 * self.step)),
            lambda: show(self.of_kind(model, 1), model.today, model.today + self.random.randrange(self.step)),
            lambda: book(self.show(model), self.number(things)),
            lambda: book(self.show(model), self.number(things)),
            lambda: book(self.show(model), self.number(things)),
            lambda: unbook(self.show(model), self.number(things)),
            lambda: hang(self.show(model)), lambda: hang(self.show(model)),
            lambda: down(self.show(model), self.number(places)),
            lambda: cancel(self.show(model)),
        ]
        return self.random.choice(makers)() if self.random.randrange(400) else start()

    def asking(self, model):
        things = len(model.things)
        makers = [
            lambda: where(self.number(things), self.number(model.today + 1)),
            lambda: dose(self.number(things), self.number(model.today + 1)),
            lambda: until(self.number(things)), lambda: inside(self.number(len(model.places))), overdue, must,
            lambda: find(self.asker.text()), lambda: find(self.asker.text()), lambda: write(self.asker.text()),
            lambda: entry(self.number(len(model.entries))), state,
        ]
        return self.random.choice(makers)()


def line_with_answers(seed, lights, step, length, asks=True):
    """The calls, and what the slow model answers to each."""
    chance = Chance(seed, lights, step)
    model = Model()
    calls = [start()]
    wanted = [[0]]
    for k in range(length - 1):
        calls.append(chance.asking(model) if asks and k % 4 == 3 else chance.call(model))
        wanted.append(model.answer(calls[-1]))
    return calls, wanted
