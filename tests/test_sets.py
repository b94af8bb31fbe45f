"""Point [10]: which params a work may set, itself or by later works."""

import itertools
import unittest

from handways.errors import BadProgram, BadWays
from handways.sets import may_set

from maker import WAYS, Maker, call, cell, num, own, par, plus, put, say, within, work
from refusing import NO_PROGRAMS, Refusing


class Base(unittest.TestCase):
    def of(self, works, ways, *told):
        """The ways and what is told are of each work but work 0."""
        rows = ((),) + tuple(tuple(row.split()) for row in ways)
        with self.subTest(ways=ways):
            self.assertEqual(may_set((work(0),) + tuple(works), rows), ((),) + told)


class Itself(Base):
    def test_nothing_is_set(self):
        self.assertEqual(may_set((work(0),), ((),)), ((),))
        self.assertEqual(may_set((work(0, put(cell(0), 1), put(own(0), 1), owns=1), work(0)), ((), ())), ((), ()))
        self.of((work(2), work(1)), ["copy want", "place"], (False, False), (False,))

    def test_a_step_sets_it(self):
        for way in WAYS:
            self.of((work(1, put(par(0), 1)),), [way], (True,))
            self.of((work(1, *say(cell(0)), put(cell(0), 2), put(par(0), 1), *say(num(1))),), [way], (True,))

    def test_which_param(self):
        for k in range(3):
            told = tuple(k == at for at in range(3))
            self.of((work(3, put(par(k), 0)),), ["copy want place"], told)
        for ks in itertools.product((0, 1, 2), repeat=2):
            told = tuple(at in ks for at in range(3))
            self.of((work(3, *[put(par(k), 0) for k in ks]),), ["back back place"], told)

    def test_it_is_only_asked(self):
        steps = say(par(0), plus(par(0), par(0)), ("cell", par(0))) + (
            ("set", own(0), par(0)), ("set", cell(0), plus(num(1), par(0))), ("if", par(0), (), ()))
        for way in WAYS:
            self.of((work(1, *steps, owns=1),), [way], (False,))

    def test_it_is_the_number_of_the_cell_that_is_set(self):
        for place in (("cell", par(0)), ("cell", plus(par(0), num(1))), ("cell", ("cell", par(0)))):
            for way in WAYS:
                self.of((work(1, put(place, 1)),), [way], (False,))

    def test_from_another_param(self):
        self.of((work(2, ("set", par(0), par(1))),), ["place place"], (True, False))
        self.of((work(2, ("set", par(1), par(0))),), ["place place"], (False, True))

    def test_own_and_cell_of_its_number(self):
        self.of((work(1, put(own(0), 1), put(cell(0), 1), owns=1),), ["place"], (False,))

    def test_within_if(self):
        set_it = put(par(0), 1)
        for step in (
            ("if", num(1), (set_it,), ()), ("if", num(0), (), (set_it,)),
            # Whether it is ever done makes no difference.
            ("if", num(0), (set_it,), ()), ("if", num(1), (), (set_it,)),
            ("if", num(0), say(num(1)) + (set_it,), say(num(2))),
            within(set_it, 4),
        ):
            self.of((work(1, step),), ["copy"], (True,))
            self.of((work(1, *say(num(1)), step, *say(num(1))),), ["want"], (True,))
        self.of((work(1, ("if", par(0), say(par(0)), say(par(0)))),), ["place"], (False,))

    def test_a_work_that_is_never_called(self):
        self.of((work(0), work(2, put(par(1), 0)), work(0)), ["", "want copy", ""], (), (False, True), ())

    def test_truths(self):
        told = may_set((work(0), work(2, put(par(1), 0))), ((), ("place", "want")))
        self.assertIs(type(told), tuple)
        self.assertIs(type(told[1]), tuple)
        self.assertIs(told[1][0], False)
        self.assertIs(told[1][1], True)


class HandedOn(Base):
    def test_by_each_way(self):
        later = work(1, put(par(0), 1))
        for first, second in itertools.product(WAYS, repeat=2):
            self.of((work(1, call(2, par(0))), later), [first, second], (second != "copy",), (True,))

    def test_to_a_work_that_does_not_set_it(self):
        later = work(1, *say(par(0)), put(cell(0), 1))
        for first, second in itertools.product(WAYS, repeat=2):
            self.of((work(1, call(2, par(0))), later), [first, second], (False,), (False,))

    def test_within_if(self):
        later = work(1, put(par(0), 1))
        for way in WAYS:
            self.of((work(1, within(call(2, par(0)), 4)), later), ["copy", way], (way != "copy",), (True,))

    def test_within_a_sum_or_as_the_number_of_a_cell(self):
        later = work(1, put(par(0), 1))
        for thing in (plus(par(0), num(0)), plus(num(0), par(0)), ("cell", par(0)), ("cell", plus(par(0), num(0))),
                      own(0), cell(0), num(0)):
            for way in WAYS:
                self.of((work(1, call(2, thing), owns=1), later), ["place", way], (False,), (True,))

    def test_which_param_of_which(self):
        later = work(3, put(par(1), 1))
        for things in itertools.permutations((par(0), par(1), par(2))):
            told = tuple(things[1] == par(k) for k in range(3))
            for way in WAYS:
                row = f"copy {way} place"
                first = told if way != "copy" else (False,) * 3
                self.of((work(3, call(2, *things)), later), ["want want want", row], first, (False, True, False))

    def test_the_same_param_twice(self):
        later = work(2, put(par(0), 1))
        for first, second in itertools.product(WAYS, repeat=2):
            self.of((work(1, call(2, par(0), par(0))), later), ["copy", f"{first} {second}"],
                    (first != "copy",), (True, False))

    def test_of_several_calls_one_is_enough(self):
        later = work(1, put(par(0), 1))
        self.of((work(2, call(3, par(0)), call(2, par(0)), call(3, par(0))), later, work(1)),
                ["want want", "back", "place"], (True, False), (True,), (False,))

    def test_through_works(self):
        works = (work(1, call(2, par(0))), work(1, call(3, par(0))), work(1, put(par(0), 1)))
        for first, second, third in itertools.product(WAYS, repeat=3):
            within_last = third != "copy"
            self.of(works, [first, second, third],
                    (within_last and second != "copy",), (within_last,), (True,))

    def test_past_a_work(self):
        works = (work(1, call(3, par(0))), work(1, call(3, par(0))), work(1, put(par(0), 1)))
        self.of(works, ["place", "place", "want"], (True,), (True,), (True,))

    def test_the_way_of_the_param_itself_makes_no_difference(self):
        works = (work(2, put(par(0), 1), call(2, par(1))), work(1, put(par(0), 1)))
        for one, other in itertools.product(WAYS, repeat=2):
            self.of(works, [f"{one} {other}", "place"], (True, True), (True,))


class ManyPrograms(unittest.TestCase):
    def test_by_all_that_leads_on(self):
        """By a search through what is handed, from each set onward to the callers."""
        maker = Maker(51)
        trues = 0
        for _ in range(600):
            program = maker.program()
            ways = maker.ways(program)
            told = self.by_search(program, ways)
            self.assertEqual(may_set(program, ways), told, (program, ways))
            trues += sum(map(sum, told))
        self.assertGreater(trues, 200)

    def steps_of(self, body):
        for step in body:
            yield step
            if step[0] == "if":
                yield from self.steps_of(step[2] + step[3])

    def by_search(self, program, ways):
        set_ones, leads = [], []
        for at, (params, owns, body) in enumerate(program):
            for step in self.steps_of(body):
                if step[0] == "set" and step[1][0] == "par":
                    set_ones.append((at, step[1][1]))
                elif step[0] == "call":
                    leads += [((step[1], k), (at, thing[1])) for k, thing in enumerate(step[2])
                              if thing[0] == "par" and ways[step[1]][k] != "copy"]
        reached = set(set_ones)
        while {other for one, other in leads if one in reached} - reached:
            reached |= {other for one, other in leads if one in reached}
        return tuple(tuple((at, k) in reached for k in range(params)) for at, (params, owns, body) in enumerate(program))


class Refused(Refusing):
    def test_the_program(self):
        for program in NO_PROGRAMS:
            for ways in ((), ((),), ((), ("none",))):
                self.refused(BadProgram, may_set, program, ways)

    def test_the_ways(self):
        program = (work(0, call(1, cell(0))), work(1, put(par(0), 1)))
        for ways in ((), ((),), ((), ()), ((), ("none",)), ((), ("place", "place")), (("place",), ())):
            self.refused(BadWays, may_set, program, ways)


if __name__ == "__main__":
    unittest.main()
