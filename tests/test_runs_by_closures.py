"""Points [5], [6] and [7]: many programs, run here by other means as well.

A thing is here a pair of functions: one reckons its number, one finds its place
(a list and an index in it; None if it is no place).
"""

import itertools
import unittest

from handways.programs import need_program
from handways.running import ran

from maker import WAYS, Maker


def new_place(number):
    row = [number]
    return lambda: row[0], lambda: (row, 0)


def handed(thing, way):
    """The pair that is handed for a pair, and the place to lay back in."""
    number, find = thing
    if way == "want":
        return thing, None
    place = find()
    if way == "place" and place is not None:
        row, k = place
        return (lambda: row[k], lambda: (row, k)), None
    return new_place(number()), place if way == "back" else None


class Closures:
    def __init__(self, program, ways, cells):
        self.program, self.ways = program, ways
        self.commons = list(cells)
        self.said = []

    def pair(self, thing, owns, params):
        word = thing[0]
        if word == "num":
            return lambda: thing[1], lambda: None
        if word == "own":
            return lambda: owns[thing[1]], lambda: (owns, thing[1])
        if word == "par":
            return params[thing[1]]
        parts = [self.pair(part, owns, params)[0] for part in thing[1:]]
        if word == "sum":
            return lambda: sum(part() for part in parts) % 3, lambda: None
        return lambda: self.commons[parts[0]()], lambda: (self.commons, parts[0]())

    def work(self, at, params):
        owns = [0] * self.program[at][1]
        self.steps(self.program[at][2], owns, params)

    def steps(self, body, owns, params):
        for word, *parts in body:
            if word == "call":
                pairs = [self.pair(thing, owns, params) for thing in parts[1]]
                both = [handed(pair, way) for pair, way in zip(pairs, self.ways[parts[0]])]
                self.work(parts[0], [pair for pair, place in both])
                for (number, find), place in both:
                    if place is not None:
                        place[0][place[1]] = number()
                continue
            number, find = self.pair(parts[0], owns, params)
            if word == "say":
                self.said.append(number())
            elif word == "if":
                self.steps(parts[1] if number() else parts[2], owns, params)
            elif find() is not None:
                row, k = find()
                row[k] = self.pair(parts[1], owns, params)[0]()


def by_closures(program, ways, cells):
    run = Closures(program, ways, cells)
    run.work(0, [])
    return run.said, tuple(run.commons)


class ByClosures(unittest.TestCase):
    def test_they_come_out_alike(self):
        maker = Maker(20)
        for _ in range(1500):
            program = maker.program()
            self.assertIsNone(need_program(program))
            for _ in range(4):
                ways, cells = maker.ways(program), maker.cells()
                told = ran(program, ways, cells)
                self.assertEqual(told, by_closures(program, ways, cells), (program, ways, cells))

    def test_the_programs_tell_the_ways_apart(self):
        """Else the test above would say little of the ways."""
        maker = Maker(21)
        apart = dict.fromkeys(itertools.combinations(WAYS, 2), 0)
        for _ in range(400):
            program, cells = maker.program(), maker.cells()
            told = {way: ran(program, tuple((way,) * work[0] for work in program), cells) for way in WAYS}
            for one, other in apart:
                apart[one, other] += told[one] != told[other]
        for pair, many in apart.items():
            self.assertGreater(many, 10, pair)


if __name__ == "__main__":
    unittest.main()
