"""Point [12]: a program is made from some ways into others, with the same runs."""

import itertools
import unittest

from handways.errors import BadProgram, BadWays
from handways.making import placed, wanted
from handways.programs import need_program, need_ways
from handways.running import ran

from maker import ALL_CELLS, WAYS, Maker, call, cell, num, own, par, plus, put, say, within, work
from refusing import NO_PROGRAMS, Refusing

BUT_WANT = ("copy", "place", "back")


def count_of(body):
    return sum(1 + (count_of(step[2] + step[3]) if step[0] == "if" else 0) for step in body)


def is_small(program):
    return all(owns <= 10 and count_of(body) <= 20 for params, owns, body in program)


def all_rows(params, ways):
    return itertools.product(ways, repeat=params)


class Base(unittest.TestCase):
    def same(self, program, ways):
        """What placed tells, and wanted if it may be asked, is as is promised."""
        self.told(program, ways, placed(program, ways), tuple(
            tuple("want" if way == "want" else "place" for way in row) for row in ways))
        if "want" not in sum(ways, ()):
            self.told(program, ways, wanted(program, ways), tuple(("want",) * len(row) for row in ways))

    def told(self, program, ways, pair, rows):
        self.assertIs(type(pair), tuple)
        other, told = pair
        self.assertEqual(told, rows)
        self.assertIsNone(need_program(other))
        self.assertIsNone(need_ways(other, told))
        self.assertEqual([work[0] for work in other], [work[0] for work in program])
        for cells in ALL_CELLS:
            self.assertEqual(ran(other, told, cells), ran(program, ways, cells), (program, ways, cells, pair))

    def by_all_ways(self, *works):
        """The works by all ways that they may have."""
        for ways in itertools.product(*[list(all_rows(params, WAYS)) for params, owns, body in works]):
            self.same(works, ways)


class OneParam(Base):
    def test_nothing_is_handed(self):
        self.by_all_ways(work(0))
        self.by_all_ways(work(0, put(own(1), 2), *say(own(1), cell(0)), call(1), owns=2), work(0, put(cell(0), 1)))

    def test_each_thing(self):
        uses = (put(par(0), 2), *say(cell(0), cell(1), par(0)), put(cell(0), 1), *say(par(0)),
                ("set", par(0), plus(par(0), num(1))))
        for thing in (num(1), plus(cell(0), num(1)), cell(0), cell(2), own(0), ("cell", cell(0)),
                      ("cell", ("cell", cell(0))), ("cell", own(0)), ("cell", plus(cell(0), own(0)))):
            steps = (put(own(0), 1), call(1, thing), *say(own(0), cell(0)), call(1, thing), *say(own(0)))
            self.by_all_ways(work(0, *steps, owns=1), work(1, *uses))
            self.by_all_ways(work(0, *steps, owns=1), work(1, *uses, put(own(0), 1), *say(own(0)), owns=1))

    def test_places_by_numbers_that_change_between_call_and_use(self):
        for change in (("set", cell(0), plus(cell(0), num(1))), ("set", cell(1), cell(2)), put(cell(0), 0)):
            for use in (put(par(0), 2), ("set", par(0), plus(par(0), num(2))), *say(par(0)),
                        ("if", par(0), say(num(1)), (put(par(0), 1),))):
                for thing in (("cell", cell(0)), ("cell", plus(cell(0), cell(1))), ("cell", ("cell", cell(1)))):
                    self.by_all_ways(work(0, call(1, thing), *say(thing)), work(1, change, use, *say(par(0))))

    def test_a_number_of_an_own_cell_that_is_changed_within(self):
        works = (work(0, call(1, ("cell", own(0)), own(0)), *say(own(0)), owns=1),
                 work(2, put(par(1), 2), put(par(0), 1), *say(par(0), par(1))))
        self.by_all_ways(*works)

    def test_new_cells_of_no_places(self):
        for thing in (num(2), plus(cell(0), num(1)), plus(own(0), own(0))):
            works = (work(0, call(1, thing), call(1, thing), owns=1),
                     work(1, *say(par(0)), put(par(0), 1), *say(par(0)), put(cell(0), 2), *say(par(0))))
            self.by_all_ways(*works)

    def test_no_places_handed_on(self):
        first = work(0, call(1, plus(cell(0), num(1))), *say(cell(0)))
        second = work(1, put(cell(0), 2), call(2, par(0)), *say(par(0)))
        third = work(1, *say(par(0)), put(par(0), 1), put(cell(0), 1), *say(par(0)))
        self.by_all_ways(first, second, third)

    def test_nothing_is_done_with_it(self):
        self.by_all_ways(work(0, call(1, cell(0))), work(1))
        self.by_all_ways(work(0), work(1, put(par(0), 1)))

    def test_what_is_set_in_an_if(self):
        uses = ("if", par(0), (put(par(0), 2), ("if", cell(0), (put(par(0), 0),), ())), (put(par(0), 1),))
        self.by_all_ways(work(0, call(1, cell(1)), call(1, cell(0))), work(1, uses, *say(cell(0), par(0))))


class SeveralParams(Base):
    def test_back_of_several_to_the_same_place(self):
        steps = (put(par(0), 1), put(par(1), 2), *say(par(0), par(1), par(2), cell(0)), put(par(2), 0))
        for things in ((cell(0), cell(0), cell(0)), (own(0), own(0), cell(0)), (cell(0), ("cell", cell(0)), cell(1)),
                       (("cell", cell(2)), cell(2), ("cell", cell(2)))):
            self.by_all_ways(work(0, call(1, *things), *say(own(0)), owns=1), work(3, *steps))

    def test_the_last_one_is_laid_back_last(self):
        works = (work(0, call(1, cell(0), cell(0), cell(0))), work(3, put(par(0), 1), put(par(2), 2), put(par(1), 0)))
        ways = ((), ("back",) * 3)
        self.assertEqual(ran(*placed(works, ways), (0, 0, 0)), ([], (2, 0, 0)))
        self.assertEqual(ran(*wanted(works, ways), (0, 0, 0)), ([], (2, 0, 0)))
        self.same(works, ways)

    def test_laid_back_where_it_was_found(self):
        # What param 0 lays back changes the number by which param 1 was found.
        works = (work(0, call(1, cell(0), ("cell", cell(0))), *say(cell(1))),
                 work(2, put(par(0), 1), put(par(1), 2), put(cell(0), 2)))
        self.by_all_ways(*works)

    def test_two_calls_with_other_places(self):
        works = (work(0, call(1, ("cell", cell(0)), ("cell", cell(1))), call(1, ("cell", cell(1)), ("cell", cell(2)))),
                 work(2, put(par(0), 1), ("set", par(1), plus(par(0), num(1))), *say(par(0), par(1))))
        self.by_all_ways(*works)

    def test_calls_of_works_with_more_and_fewer_params(self):
        works = (work(0, call(1, cell(0)), call(2, cell(0), num(1)), call(1, plus(cell(0), cell(1)))),
                 work(1, call(2, par(0), ("cell", par(0))), *say(par(0))),
                 work(2, put(par(1), 2), *say(par(0)), put(par(0), 1)))
        self.by_all_ways(*works)


class HandedOn(Base):
    def test_through_three_works(self):
        uses = (put(par(0), 2), *say(cell(0), par(0)), put(cell(0), 1), *say(par(0)))
        for one, other in itertools.product((par(0), ("cell", par(0)), plus(par(0), num(1)), own(0)), repeat=2):
            works = (work(0, call(1, cell(0)), *say(cell(0))),
                     work(1, call(2, one), *say(par(0)), put(par(0), 0), *say(own(0)), owns=1),
                     work(1, put(own(0), 1), call(3, other), *say(par(0), own(0)), owns=1),
                     work(1, *uses))
            self.by_all_ways(*works)

    def test_new_cells_handed_on(self):
        works = (work(0, call(1, cell(0)), *say(cell(0))),
                 work(1, put(par(0), 1), call(2, par(0), par(0)), *say(par(0))),
                 work(2, ("set", par(0), plus(par(1), num(1))), *say(par(1), cell(0)), put(par(1), 0), *say(par(0))))
        self.by_all_ways(*works)

    def test_a_place_that_is_found_by_a_param(self):
        works = (work(0, call(1, cell(0))),
                 work(1, call(2, ("cell", par(0)), par(0)), *say(par(0))),
                 work(2, put(par(1), 1), put(par(0), 2), *say(par(0), par(1)), put(cell(0), 0), *say(par(0), par(1))))
        self.by_all_ways(*works)

    def test_own_cells_of_works_that_are_done_twice(self):
        works = (work(0, call(1, own(0)), call(1, own(0)), *say(own(0)), owns=1),
                 work(1, *say(own(0), par(0)), put(own(0), 2), call(2, own(0), par(0)), *say(own(0)), owns=1),
                 work(2, *say(own(0)), put(own(0), 1), ("set", par(0), own(0)), put(par(1), 1), owns=1))
        self.by_all_ways(*works)


def deep(thing, depth):
    """The thing within so many others, sums and cells in turn."""
    for k in range(depth):
        thing = ("cell", thing) if k % 2 else plus(thing, num(1))
    return thing


def in_cells(thing, depth):
    for _ in range(depth):
        thing = ("cell", thing)
    return thing


class Full(Base):
    """Works as full and things as deep as may be handed in."""

    def test_twenty_steps_and_ten_own_cells(self):
        things = (in_cells(cell(0), 3), deep(own(9), 4), ("cell", own(8)))
        steps = tuple(call(1, *things) if k % 2 else ("set", own(k // 2), cell(k % 3)) for k in range(20))
        later = say(*[par(k % 3) for k in range(5)]) + tuple(
            ("set", par(k % 3), plus(par((k + 1) % 3), own(k % 10))) for k in range(15))
        for row in all_rows(3, WAYS):
            self.same((work(0, *steps, owns=10), work(3, *later, owns=10)), ((), row))

    def test_twenty_calls_of_three_params(self):
        things = (("cell", cell(0)), plus(cell(1), num(1)), ("cell", own(0)))
        later = (("set", par(0), plus(par(1), num(1))), ("set", par(1), par(2)), ("set", par(2), par(0)))
        for row in all_rows(3, BUT_WANT):
            self.same((work(0, *[call(1, *things)] * 20, owns=10), work(3, *later, owns=10)), ((), row))
        # In a work with params of its own as well.
        handing = work(3, *[call(2, ("cell", par(0)), ("cell", par(1)), num(2))] * 20, owns=10)
        first = work(0, call(1, cell(0), ("cell", cell(1)), cell(2)))
        for one, other in itertools.product(BUT_WANT, repeat=2):
            self.same((first, handing, work(3, *later)), ((), (one,) * 3, (other,) * 3))

    def test_three_params_by_back_and_twenty_steps(self):
        later = work(3, *[("set", par(k % 3), plus(par(k % 3), par((k + 1) % 3))) for k in range(20)], owns=10)
        self.same((work(0, call(1, cell(0), cell(1), cell(2))), later), ((), ("back",) * 3))

    def test_steps_within_four_others(self):
        things = (in_cells(cell(0), 3), plus(cell(0), cell(1)), own(0))
        step = within(call(1, *things), 4)
        steps = (step, step, ("set", cell(0), cell(1)), step, put(own(0), 2), *say(own(0)), put(own(0), 1), put(cell(2), 1))
        self.assertEqual(count_of(steps), 20)
        for row in all_rows(3, WAYS):
            self.same((work(0, *steps, owns=10), work(3, put(par(0), 1), put(par(1), 1), put(par(2), 1))), ((), row))

    def test_all_within_one_if(self):
        things = (("cell", cell(0)), num(1), ("cell", own(0)))
        step = ("if", cell(1), (call(1, *things),) * 9, (call(1, *things),) * 10)
        for row in all_rows(3, BUT_WANT):
            later = work(3, put(par(1), 2), ("set", par(0), par(1)), *say(par(2)))
            self.same((work(0, step, owns=1), later), ((), row))

    def test_things_within_four_others(self):
        for thing in (in_cells(cell(0), 3), in_cells(own(0), 4), deep(cell(0), 3), ("cell", deep(own(0), 3)),
                      in_cells(par(0), 4), ("cell", deep(par(0), 3)), deep(par(0), 4)):
            works = (work(0, call(1, cell(0))),
                     work(1, call(2, thing), *say(thing), owns=1),
                     work(1, *say(deep(par(0), 4), in_cells(par(0), 4)), put(cell(0), 2), put(par(0), 1),
                          ("if", deep(par(0), 4), say(par(0)), ()), ("set", in_cells(par(0), 4), deep(par(0), 4))))
            self.by_all_ways(*works)

    def test_four_full_works(self):
        head = tuple(call(at, *[("cell", cell(k)) for k in range(3)]) for at in (1, 2, 3))
        rest = tuple(("set", par(k % 3), plus(par((k + 1) % 3), num(1))) for k in range(16))
        works = (work(0, *head, *say(cell(0)) * 17, owns=10),
                 work(3, call(2, ("cell", par(0)), par(1), num(1)), *rest, call(3, par(2), par(1), par(0)), *say(par(0)),
                      *say(par(1)), owns=10),
                 work(3, call(3, par(0), plus(par(1), num(1)), ("cell", par(2))), *rest, *say(par(0), par(1), par(2)),
                      owns=10),
                 work(3, *rest, *say(par(0), par(1), par(2), own(9)), owns=10))
        for one, two, three in itertools.product(BUT_WANT, repeat=3):
            self.same(works, ((), (one, two, three), (two, three, one), (three, one, two)))
        for row in (("want",) * 3, ("want", "back", "copy"), ("place", "want", "want")):
            self.same(works, ((), row, row[::-1], row))


class ManyPrograms(Base):
    def test_by_all_runs(self):
        maker = Maker(61)
        count = 0
        while count < 400:
            program = maker.program()
            if not is_small(program):
                continue
            count += 1
            self.same(program, maker.ways(program))
            self.same(program, tuple(tuple(maker.chance.choice(BUT_WANT) for way in row)
                                     for row in maker.ways(program)))

    def test_what_is_told_may_be_made_anew_again(self):
        program = (work(0, call(1, ("cell", cell(0)))), work(1, put(cell(0), 1), put(par(0), 2)))
        ways = ((), ("back",))
        once, row = placed(program, ways)
        self.same(once, row)
        once, row = wanted(program, ways)
        self.same(once, row)

    def test_what_is_handed_in_is_not_changed(self):
        program = (work(0, call(1, ("cell", cell(0)))), work(1, put(cell(0), 1), put(par(0), 2)))
        before = repr(program)
        for asked in (placed, wanted):
            self.assertEqual(asked(program, ((), ("back",))), asked(program, ((), ("back",))))
            self.assertEqual(repr(program), before)


class Refused(Refusing):
    def both(self, refusal, program, ways):
        self.refused(refusal, placed, program, ways)
        self.refused(refusal, wanted, program, ways)

    def test_the_program(self):
        for program in NO_PROGRAMS:
            for ways in ((), ((),), ((), ("none",)), ((), ("want",))):
                self.both(BadProgram, program, ways)

    def test_the_ways(self):
        program = (work(0, call(1, cell(0))), work(1, put(par(0), 1)))
        for ways in ((), ((),), ((), ()), ((), ("none",)), ((), ("place", "place")), (("place",), ())):
            self.both(BadWays, program, ways)

    def test_more_than_twenty_steps(self):
        for many in (21, 22, 40, 41, 100):
            self.both(BadProgram, (work(0, *say(num(0)) * many),), ((),))
        self.assertEqual(placed((work(0, *say(num(0)) * 20),), ((),))[1], ((),))
        self.assertEqual(wanted((work(0, *say(num(0)) * 20),), ((),))[1], ((),))

    def test_steps_within_others_count(self):
        for many in range(20):
            one, other = say(num(0)) * many, say(num(0)) * (19 - many)
            step = ("if", num(0), one, other)
            self.assertEqual(len(placed((work(0, step),), ((),))), 2)
            self.assertEqual(len(wanted((work(0, step),), ((),))), 2)
            self.both(BadProgram, (work(0, step, *say(num(0))),), ((),))
            self.both(BadProgram, (work(0, ("if", num(0), one + say(num(0)), other)),), ((),))
            self.both(BadProgram, (work(0, ("if", num(0), one, say(num(0)) + other)),), ((),))
        deep_one = within(("if", num(0), say(num(0)) * 8, say(num(0)) * 8), 3)
        self.assertEqual(count_of((deep_one,)), 20)
        self.assertEqual(len(placed((work(0, deep_one),), ((),))), 2)
        self.both(BadProgram, (work(0, *say(num(0)), deep_one),), ((),))

    def test_more_than_ten_own_cells(self):
        for owns in (11, 12, 50, 99):
            self.both(BadProgram, (work(0, owns=owns),), ((),))
        for owns in (0, 9, 10):
            self.assertEqual(len(placed((work(0, owns=owns),), ((),))), 2)
            self.assertEqual(len(wanted((work(0, owns=owns),), ((),))), 2)

    def test_each_work_for_itself(self):
        works = [work(0, *say(num(0)) * 20, owns=10)] * 4
        self.assertEqual(len(placed(tuple(works), ((),) * 4)), 2)
        self.assertEqual(len(wanted(tuple(works), ((),) * 4)), 2)
        for at in range(4):
            for wrong in (work(0, *say(num(0)) * 21), work(0, owns=11)):
                program = tuple(works[:at] + [wrong] + works[at + 1:])
                self.both(BadProgram, program, ((),) * 4)

    def test_too_full_works_are_refused_ahead_of_the_ways(self):
        for later in (work(1, *say(num(0)) * 21), work(1, owns=11)):
            for ways in ((), ((), ()), ((), ("none",)), ((), ("want",))):
                self.both(BadProgram, (work(0), later), ways)

    def test_wanted_takes_no_want(self):
        program = (work(0, call(1, cell(0), cell(1))), work(2, put(par(0), 1)), work(1))
        for one, two, three in itertools.product(WAYS, repeat=3):
            ways = ((), (one, two), (three,))
            if "want" in (one, two, three):
                self.refused(BadWays, wanted, program, ways)
            else:
                self.assertEqual(wanted(program, ways)[1], ((), ("want", "want"), ("want",)))
            self.assertEqual(len(placed(program, ways)), 2)

    def test_want_beside_what_is_no_way(self):
        program = (work(0), work(2))
        for ways in (((), ("want", "none")), ((), ("none", "want")), ((), ("want",))):
            self.both(BadWays, program, ways)


if __name__ == "__main__":
    unittest.main()
