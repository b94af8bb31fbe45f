"""Programs, ways and cells that look like chance, and parts to write some by."""

import itertools
import random

WAYS = ("copy", "place", "back", "want")
ALL_CELLS = list(itertools.product((0, 1, 2), repeat=3))


def num(number):
    return ("num", number)


def cell(number):
    return ("cell", num(number))


def own(k):
    return ("own", k)


def par(k):
    return ("par", k)


def plus(one, other):
    return ("sum", one, other)


def put(place, number):
    return ("set", place, num(number))


def say(*things):
    """A step for each thing, to be taken with a star."""
    return tuple(("say", thing) for thing in things)


def call(work, *things):
    return ("call", work, things)


def work(params, *steps, owns=0):
    return (params, owns, steps)


def only_on(cells, *steps):
    """A step that does the steps only where the common cells have these numbers."""
    for k, number in enumerate(cells):
        steps = (("if", plus(cell(k), num((3 - number) % 3)), (), steps),)
    return steps[0]


def within(step, depth):
    """The step within so many ifs, by their first and second bodies in turn."""
    for k in range(depth):
        step = ("if", num(1), (step,), ()) if k % 2 else ("if", num(0), (), (step,))
    return step


class Maker:
    """Makes programs that look like chance, from a seed."""

    def __init__(self, seed):
        self.chance = random.Random(seed)

    def place(self, work, depth):
        words = ["cell"] + ["own"] * min(work[1], 2) + ["par"] * (3 if work[0] else 0)
        word = self.chance.choice(words)
        if word == "own":
            return word, self.chance.randrange(work[1])
        if word == "par":
            return word, self.chance.randrange(work[0])
        return word, self.thing(work, depth + 1)

    def thing(self, work, depth=0):
        choice = self.chance.random()
        if depth < 3 and choice < 0.6:
            return self.place(work, depth)
        if depth < 4 and choice < 0.75:
            return "sum", self.thing(work, depth + 1), self.thing(work, depth + 1)
        return "num", self.chance.randrange(3)

    def step(self, heads, at, depth):
        work = heads[at]
        choice = self.chance.random()
        if choice < 0.35:
            return "set", self.place(work, 0), self.thing(work)
        if choice < 0.55:
            return "say", self.thing(work)
        if choice < 0.7 and depth < 2:
            return "if", self.thing(work), self.body(heads, at, depth + 1), self.body(heads, at, depth + 1)
        if at + 1 == len(heads):
            return "say", self.place(work, 0)
        called = self.chance.randrange(at + 1, len(heads))
        return "call", called, tuple(self.thing(work) for _ in range(heads[called][0]))

    def body(self, heads, at, depth=0):
        return tuple(self.step(heads, at, depth) for _ in range(self.chance.randrange(1, 5)))

    def program(self):
        many = self.chance.randrange(1, 5)
        heads = [(self.chance.randrange(4) if at else 0, self.chance.randrange(4)) for at in range(many)]
        return tuple(head + (self.body(heads, at),) for at, head in enumerate(heads))

    def ways(self, program):
        return tuple(tuple(self.chance.choice(WAYS) for _ in range(work[0])) for work in program)

    def cells(self):
        return tuple(self.chance.randrange(3) for _ in range(3))
