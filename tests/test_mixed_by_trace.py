"""Points [9] to [11]: many programs, run here by other means as well.

A run leaves a trace here: what was lent, what was ended, and what was come to
by which road. The trace is looked at for itself, behind the run.
"""

import itertools
import unittest

from handways.beside import mixed, parted
from handways.running import ran
from handways.sets import may_set

from maker import ALL_CELLS, Maker


class Tracer:
    """Runs a program; a place is a pair of a key and a frozenset of lent keys."""

    def __init__(self, program, ways, cells):
        self.program, self.ways = program, ways
        self.numbers = {("common", k): number for k, number in enumerate(cells)}
        self.fresh = itertools.count()
        self.trace = []
        self.said = []
        self.work(0, {})

    def new(self, number):
        key = next(self.fresh)
        self.numbers[key] = number
        return key

    def place(self, thing, owns, params):
        """The place of a thing as it is found now, or None."""
        if thing[0] == "cell":
            return ("common", self.number(thing[1], owns, params)), frozenset()
        if thing[0] == "own":
            return owns[thing[1]], frozenset()
        return params[thing[1]]["place"]() if thing[0] == "par" else None

    def number(self, thing, owns, params):
        """The number of a thing now; its places are come to."""
        if thing[0] == "num":
            return thing[1]
        if thing[0] == "sum":
            return sum([self.number(part, owns, params) for part in thing[1:]]) % 3
        if thing[0] == "par":
            return params[thing[1]]["number"]()
        return self.asked(self.place(thing, owns, params))

    def asked(self, place):
        self.trace.append(("come", place))
        return self.numbers[place[0]]

    def work(self, at, params):
        owns = [self.new(0) for _ in range(self.program[at][1])]
        self.body(self.program[at][2], owns, params)

    def body(self, steps, owns, params):
        for step in steps:
            if step[0] == "say":
                self.said.append(self.number(step[1], owns, params))
            elif step[0] == "if":
                self.body(step[2] if self.number(step[1], owns, params) else step[3], owns, params)
            elif step[0] == "call":
                self.call(step[1], step[2], owns, params)
            else:
                number = self.number(step[2], owns, params)
                place = self.place(step[1], owns, params)
                if place is not None:
                    self.trace.append(("come", place))
                    self.numbers[place[0]] = number

    def call(self, called, things, owns, params):
        handed, loans, behind = {}, [], []
        for k, (thing, way) in enumerate(zip(things, self.ways[called])):
            handed[k] = self.handed(thing, way, owns, params, loans, behind)
        self.work(called, handed)
        self.trace.extend(("end", loan) for loan in loans)
        for key, new in behind:
            self.numbers[key] = self.numbers[new]

    def handed(self, thing, way, owns, params, loans, behind):
        if way == "want":
            return {
                "place": lambda: self.place(thing, owns, params),
                "number": lambda: self.number(thing, owns, params),
            }
        place = self.place(thing, owns, params) if way != "copy" else None
        if place is None:
            return self.by_place(self.new(self.number(thing, owns, params)), frozenset())
        self.trace.append(("come", place))
        loan = ("loan", next(self.fresh))
        loans.append(loan)
        if way == "place":
            told = self.by_place(place[0], place[1] | {loan})
        else:
            new = self.new(self.number(thing, owns, params))
            behind.append((place[0], new))
            told = self.by_place(new, frozenset())
        self.trace.append(("lent", place[0], loan))
        return told

    def by_place(self, key, road):
        return {"place": lambda: (key, road), "number": lambda: self.asked((key, road))}


def is_mixed(trace):
    lent = {}
    for event in trace:
        if event[0] == "lent":
            lent[event[2]] = event[1]
        elif event[0] == "end":
            del lent[event[1]]
        else:
            key, road = event[1]
            if {loan for loan in lent if lent[loan] == key} - road:
                return True
    return False


def by_trace(program, ways):
    for cells in ALL_CELLS:
        if is_mixed(Tracer(program, ways, cells).trace):
            return cells
    return None


def made(seed, many):
    """Programs with works that hand things, and ways."""
    maker = Maker(seed)
    while many:
        program = maker.program()
        if sum(work[0] for work in program):
            many -= 1
            yield maker, program, maker.ways(program)


class ByTrace(unittest.TestCase):
    def test_the_tracer_runs_as_ran_does(self):
        for maker, program, ways in made(41, 300):
            cells = maker.cells()
            tracer = Tracer(program, ways, cells)
            told = tracer.said, tuple(tracer.numbers["common", k] for k in range(3))
            self.assertEqual(ran(program, ways, cells), told)

    def test_mixed(self):
        told = {}
        for maker, program, ways in made(42, 1200):
            cells = mixed(program, ways)
            self.assertEqual(cells, by_trace(program, ways), (program, ways))
            told[cells] = told.get(cells, 0) + 1
        self.assertGreater(told[None], 100)
        self.assertGreater(told[0, 0, 0], 100)
        self.assertGreater(len(told), 8)


class WhatFollows(unittest.TestCase):
    """Point [11], of programs and ways that aren't mixed."""

    def changed(self, maker, ways, sets):
        """Place and back changed at some params, and to copy where nothing is set."""
        rows = []
        for row, truths in zip(ways, sets):
            to = [(way,) if way in ("copy", "want") else ("place", "back") if is_set else ("place", "back", "copy")
                  for way, is_set in zip(row, truths)]
            rows.append(tuple(maker.chance.choice(choices) for choices in to))
        return tuple(rows)

    def test_it_comes_out_alike(self):
        changes = {}
        for maker, program, ways in made(43, 1500):
            if mixed(program, ways) is not None:
                continue
            for _ in range(3):
                other = self.changed(maker, ways, may_set(program, ways))
                self.assertIsNone(parted(program, ways, other), (program, ways, other))
                for pair in zip(sum(ways, ()), sum(other, ())):
                    changes[pair] = changes.get(pair, 0) + 1
        for pair in (("place", "back"), ("back", "place"), ("place", "copy"), ("back", "copy")):
            self.assertGreater(changes[pair], 100)

    def test_else_it_may_come_out_unlike(self):
        """So that the test above says something."""
        mixed_ones, set_ones = 0, 0
        for maker, program, ways in made(44, 300):
            turned = {"place": "back", "back": "place"}
            other = tuple(tuple(turned.get(way, way) for way in row) for row in ways)
            copied = tuple(tuple("copy" if way in turned else way for way in row) for row in ways)
            if mixed(program, ways) is not None:
                mixed_ones += parted(program, ways, other) is not None
            else:
                set_ones += parted(program, ways, copied) is not None
        self.assertGreater(mixed_ones, 10)
        self.assertGreater(set_ones, 10)


if __name__ == "__main__":
    unittest.main()
