"""Points [5], [6] and [7]: how a run goes, the four ways, and what ran tells."""

import itertools
import unittest

from handways.errors import BadCells, BadProgram, BadText, BadWays, HandError
from handways.running import ran

from maker import WAYS, cell, num, own, par, plus, put, say


class Base(unittest.TestCase):
    def check(self, program, ways, cells, said, after):
        self.assertEqual(ran(program, ways, cells), (said, after))

    def by_each_way(self, program, cells, told):
        """Work 1 has one param; told has the way's outcome."""
        self.assertEqual(sorted(told), sorted(WAYS))
        for way in WAYS:
            rest = ((),) * (len(program) - 2)
            with self.subTest(way=way):
                self.assertEqual(ran(program, ((), (way,)) + rest, cells), told[way])


class Told(Base):
    def test_a_list_and_a_tuple(self):
        told = ran(((0, 0, say(num(2))),), ((),), (0, 1, 2))
        self.assertIs(type(told), tuple)
        self.assertIs(type(told[0]), list)
        self.assertIs(type(told[1]), tuple)
        self.assertEqual(told, ([2], (0, 1, 2)))

    def test_nothing_is_done(self):
        for cells in itertools.product((0, 1, 2), repeat=3):
            self.check(((0, 0, ()),), ((),), cells, [], cells)

    def test_in_order(self):
        steps = say(num(1), num(0)) + (put(cell(1), 2),) + say(num(2), cell(1), num(0))
        self.check(((0, 0, steps),), ((),), (0, 0, 0), [1, 0, 2, 2, 0], (0, 2, 0))

    def test_only_work_0_is_done_unless_called(self):
        later = (0, 0, say(num(1)) + (put(cell(0), 2),))
        self.check(((0, 0, say(num(0))), later, later), ((), (), ()), (0, 0, 0), [0], (0, 0, 0))

    def test_cells_are_by_their_numbers(self):
        steps = say(cell(0), cell(1), cell(2), ("cell", cell(0)), ("cell", ("cell", cell(0))))
        self.check(((0, 0, steps),), ((),), (1, 2, 0), [1, 2, 0, 2, 0], (1, 2, 0))

    def test_a_set_of_a_cell_by_what_it_is_found_by(self):
        steps = (("set", ("cell", cell(0)), num(2)), ("set", ("cell", plus(cell(0), num(1))), num(1)))
        self.check(((0, 0, steps),), ((),), (1, 0, 0), [], (1, 2, 1))

    def test_a_set_from_the_place_itself(self):
        steps = (("set", ("cell", cell(0)), plus(cell(0), num(1))),)
        self.check(((0, 0, steps),), ((),), (0, 0, 0), [], (1, 0, 0))
        self.check(((0, 0, steps),), ((),), (2, 0, 2), [], (2, 0, 0))

    def test_sums_by_their_rest(self):
        for one, other in itertools.product((0, 1, 2), repeat=2):
            rest = (one + other) % 3
            self.check(((0, 0, say(plus(num(one), num(other)))),), ((),), (0, 0, 0), [rest], (0, 0, 0))
        deep = plus(plus(num(2), num(2)), plus(num(2), plus(num(1), num(1))))
        self.check(((0, 0, say(deep)),), ((),), (0, 0, 0), [2], (0, 0, 0))
        self.check(((0, 0, say(("cell", plus(num(2), num(2))))),), ((),), (0, 2, 1), [2], (0, 2, 1))

    def test_if(self):
        steps = (("if", cell(0), say(num(1), num(1)), say(num(2))),) + say(num(0))
        for number, said in ((0, [2, 0]), (1, [1, 1, 0]), (2, [1, 1, 0])):
            self.check(((0, 0, steps),), ((),), (number, 0, 0), said, (number, 0, 0))

    def test_if_within_if(self):
        inner = ("if", cell(1), say(num(1)), say(num(2)))
        steps = (("if", cell(0), (inner,), (inner, inner)),)
        for one, other, said in ((0, 0, [2, 2]), (0, 1, [1, 1]), (1, 0, [2]), (2, 2, [1])):
            self.check(((0, 0, steps),), ((),), (one, other, 0), said, (one, other, 0))

    def test_the_body_is_chosen_once(self):
        steps = (("if", cell(0), (put(cell(0), 0),) + say(num(1)), (put(cell(0), 1),) + say(num(2))),)
        self.check(((0, 0, steps),), ((),), (0, 0, 0), [2], (1, 0, 0))
        self.check(((0, 0, steps),), ((),), (2, 0, 0), [1], (0, 0, 0))

    def test_at_the_limits(self):
        step = ("if", num(1), (("say", own(98)),), ())
        for _ in range(3):
            step = ("if", num(1), (step,), ())
        self.check(((0, 99, (step, put(own(98), 2), step)),), ((),), (0, 0, 0), [0, 2], (0, 0, 0))
        self.check(((0, 0, say(num(1)) * 100),), ((),), (0, 0, 0), [1] * 100, (0, 0, 0))


class Owns(Base):
    def test_they_are_0_first(self):
        self.check(((0, 2, say(own(0), own(1))),), ((),), (1, 1, 1), [0, 0], (1, 1, 1))

    def test_they_are_unlike_cells(self):
        steps = (put(own(1), 2),) + say(own(0), own(1), own(2))
        self.check(((0, 3, steps),), ((),), (1, 1, 1), [0, 2, 0], (1, 1, 1))

    def test_they_are_0_at_each_time(self):
        later = (0, 1, say(own(0)) + (("set", own(0), plus(own(0), num(1))),) + say(own(0)))
        program = ((0, 1, (put(own(0), 2), ("call", 1, ()), ("call", 1, ())) + say(own(0))), later)
        self.check(program, ((), ()), (0, 0, 0), [0, 1, 0, 1, 2], (0, 0, 0))

    def test_works_within_one_another_have_their_own(self):
        last = (0, 1, (put(own(0), 2),) + say(own(0)))
        middle = (0, 1, (put(own(0), 1), ("call", 2, ())) + say(own(0)))
        program = ((0, 1, (("call", 1, ()),) + say(own(0))), middle, last)
        self.check(program, ((), (), ()), (0, 0, 0), [2, 1, 0], (0, 0, 0))


class OneThing(Base):
    """Work 0 hands one thing to work 1, by each of the ways."""

    def test_a_cell_that_is_set(self):
        later = (1, 0, say(par(0)) + (put(par(0), 2),) + say(par(0), cell(0)))
        program = ((0, 0, (("call", 1, (cell(0),)),) + say(cell(0))), later)
        self.by_each_way(program, (1, 0, 0), {
            "copy": ([1, 2, 1, 1], (1, 0, 0)),
            "place": ([1, 2, 2, 2], (2, 0, 0)),
            "back": ([1, 2, 1, 2], (2, 0, 0)),
            "want": ([1, 2, 2, 2], (2, 0, 0)),
        })

    def test_an_own_cell_that_is_set(self):
        later = (1, 1, (put(par(0), 2), put(own(0), 1)) + say(par(0)))
        program = ((0, 1, (put(own(0), 1), ("call", 1, (own(0),))) + say(own(0))), later)
        self.by_each_way(program, (0, 0, 0), {
            "copy": ([2, 1], (0, 0, 0)),
            "place": ([2, 2], (0, 0, 0)),
            "back": ([2, 2], (0, 0, 0)),
            "want": ([2, 2], (0, 0, 0)),
        })

    def test_a_cell_that_changes_elsewhere(self):
        later = (1, 0, (put(cell(0), 2),) + say(par(0)))
        program = ((0, 0, (("call", 1, (cell(0),)),)), later)
        self.by_each_way(program, (1, 0, 0), {
            "copy": ([1], (2, 0, 0)),
            "place": ([2], (2, 0, 0)),
            "back": ([1], (1, 0, 0)),
            "want": ([2], (2, 0, 0)),
        })

    def test_a_number(self):
        later = (1, 0, say(par(0)) + (put(par(0), 2),) + say(par(0)))
        program = ((0, 0, (("call", 1, (num(1),)), ("call", 1, (num(1),)))), later)
        self.by_each_way(program, (0, 0, 0), {
            "copy": ([1, 2, 1, 2], (0, 0, 0)),
            "place": ([1, 2, 1, 2], (0, 0, 0)),
            "back": ([1, 2, 1, 2], (0, 0, 0)),
            "want": ([1, 1, 1, 1], (0, 0, 0)),
        })

    def test_a_sum(self):
        later = (1, 0, (put(cell(0), 2),) + say(par(0)) + (put(par(0), 1),) + say(par(0)))
        program = ((0, 0, (("call", 1, (plus(cell(0), cell(1)),)),)), later)
        self.by_each_way(program, (0, 2, 0), {
            "copy": ([2, 1], (2, 2, 0)),
            "place": ([2, 1], (2, 2, 0)),
            "back": ([2, 1], (2, 2, 0)),
            "want": ([1, 1], (2, 2, 0)),
        })

    def test_a_cell_of_a_number_that_changes(self):
        # Between the call and the use the number goes from 1 to 2.
        later = (1, 0, (put(cell(0), 2),) + say(par(0)) + (put(par(0), 1),) + say(par(0)))
        program = ((0, 0, (("call", 1, (("cell", cell(0)),)),)), later)
        self.by_each_way(program, (1, 2, 0), {
            "copy": ([2, 1], (2, 2, 0)),
            "place": ([2, 1], (2, 1, 0)),
            "back": ([2, 1], (2, 1, 0)),
            "want": ([0, 1], (2, 2, 1)),
        })

    def test_a_cell_of_an_own_number_of_the_caller(self):
        # Work 1 has an own cell of that number as well, which is another.
        later = (1, 1, (put(own(0), 1),) + say(par(0)) + (put(par(0), 0),))
        program = ((0, 1, (put(own(0), 2), ("call", 1, (("cell", own(0)),)))), later)
        self.by_each_way(program, (0, 1, 2), {
            "copy": ([2], (0, 1, 2)),
            "place": ([2], (0, 1, 0)),
            "back": ([2], (0, 1, 0)),
            "want": ([2], (0, 1, 0)),
        })

    def test_a_set_of_the_number_of_the_place_itself(self):
        # The cell of its own number: the set moves the place that is wanted.
        later = (1, 0, (put(par(0), 1),) + say(par(0)) + (put(par(0), 2),))
        program = ((0, 0, (("call", 1, (("cell", cell(0)),)),)), later)
        self.by_each_way(program, (0, 0, 0), {
            "copy": ([1], (0, 0, 0)),
            "place": ([1], (2, 0, 0)),
            "back": ([1], (2, 0, 0)),
            "want": ([0], (1, 2, 0)),
        })

    def test_asked_by_an_if_and_by_a_cell(self):
        later = (1, 0, (put(cell(0), 1), ("if", par(0), say(num(1)), say(num(2)))) + say(("cell", par(0))))
        program = ((0, 0, (("call", 1, (cell(0),)),)), later)
        self.by_each_way(program, (0, 2, 0), {
            "copy": ([2, 1], (1, 2, 0)),
            "place": ([1, 2], (1, 2, 0)),
            "back": ([2, 1], (0, 2, 0)),
            "want": ([1, 2], (1, 2, 0)),
        })

    def test_back_lays_back_though_nothing_was_set(self):
        later = (1, 0, (put(cell(0), 2),))
        program = ((0, 0, (("call", 1, (cell(0),)),) + say(cell(0))), later)
        self.check(program, ((), ("back",)), (1, 0, 0), [1], (1, 0, 0))

    def test_back_lays_back_at_the_end_only(self):
        later = (1, 0, (put(par(0), 2),) + say(cell(0)) + (("if", num(1), say(cell(0)), ()),))
        program = ((0, 0, (("call", 1, (cell(0),)),) + say(cell(0))), later)
        self.check(program, ((), ("back",)), (1, 0, 0), [1, 1, 2], (2, 0, 0))


class SeveralThings(Base):
    def test_back_of_several_to_the_same_place(self):
        later = (3, 0, (put(par(0), 1), put(par(2), 0), put(par(1), 2)))
        program = ((0, 0, (("call", 1, (cell(0),) * 3),)), later)
        self.check(program, ((), ("back",) * 3), (1, 0, 0), [], (0, 0, 0))
        self.check(program, ((), ("back", "back", "copy")), (1, 0, 0), [], (2, 0, 0))
        self.check(program, ((), ("back", "copy", "copy")), (2, 0, 0), [], (1, 0, 0))
        self.check(program, ((), ("copy", "back", "place")), (1, 0, 0), [], (2, 0, 0))

    def test_back_of_several_though_the_last_was_not_set(self):
        later = (2, 0, (put(par(0), 2),))
        program = ((0, 0, (("call", 1, (cell(0), cell(0))),)), later)
        self.check(program, ((), ("back", "back")), (1, 0, 0), [], (1, 0, 0))

    def test_back_of_places_that_are_found_alike(self):
        # Both are the common cell 0, by unlike things.
        later = (2, 0, (put(par(0), 1), put(par(1), 2)))
        program = ((0, 1, (("call", 1, (("cell", own(0)), cell(0))),)), later)
        self.check(program, ((), ("back", "back")), (0, 0, 0), [], (2, 0, 0))

    def test_back_to_a_place_as_it_was_found_at_the_call(self):
        # What is laid back first changes the number by which the second was found.
        later = (2, 0, (put(par(0), 2), put(par(1), 1)))
        program = ((0, 0, (("call", 1, (cell(0), ("cell", cell(0)))),)), later)
        self.check(program, ((), ("back", "back")), (1, 0, 0), [], (2, 1, 0))

    def test_each_by_its_own_way(self):
        later = (3, 0, (put(cell(0), 2), put(cell(1), 2), put(cell(2), 2)) + say(par(0), par(1), par(2)))
        program = ((0, 0, (("call", 1, (cell(0), cell(1), cell(2))),)), later)
        numbers = {"copy": 1, "place": 2, "back": 1, "want": 2}
        after = {"copy": 2, "place": 2, "back": 1, "want": 2}
        for ways in itertools.product(WAYS, repeat=3):
            said = [numbers[way] for way in ways]
            self.check(program, ((), ways), (1, 1, 1), said, tuple(after[way] for way in ways))

    def test_two_roads_to_one_cell(self):
        later = (2, 0, (put(par(0), 2),) + say(par(1)) + (put(par(1), 0),) + say(par(0)))
        program = ((0, 0, (("call", 1, (cell(0), cell(0))),)), later)
        numbers = {
            ("place", "place"): ([2, 0], (0, 0, 0)),
            ("place", "copy"): ([1, 2], (2, 0, 0)),
            ("place", "back"): ([1, 2], (0, 0, 0)),
            ("place", "want"): ([2, 0], (0, 0, 0)),
            ("copy", "place"): ([1, 2], (0, 0, 0)),
            ("back", "place"): ([1, 2], (2, 0, 0)),
            ("want", "place"): ([2, 0], (0, 0, 0)),
            ("want", "want"): ([2, 0], (0, 0, 0)),
            ("copy", "copy"): ([1, 2], (1, 0, 0)),
            ("back", "copy"): ([1, 2], (2, 0, 0)),
            ("copy", "back"): ([1, 2], (0, 0, 0)),
        }
        for ways, (said, after) in numbers.items():
            self.check(program, ((), ways), (1, 0, 0), said, after)

    def test_one_want_stands_within_another_thing(self):
        later = (2, 0, (put(par(0), 1),) + say(par(1)))
        program = ((0, 0, (("call", 1, (cell(0), plus(cell(0), cell(0)))),)), later)
        self.check(program, ((), ("place", "want")), (0, 0, 0), [2], (1, 0, 0))
        self.check(program, ((), ("want", "want")), (0, 0, 0), [2], (1, 0, 0))
        self.check(program, ((), ("back", "want")), (0, 0, 0), [0], (1, 0, 0))
        self.check(program, ((), ("place", "copy")), (0, 0, 0), [0], (1, 0, 0))


class HandedOn(Base):
    """Work 1 hands its par 0 on to work 2, which sets it."""

    def outcomes(self, thing, cells, owns=0):
        steps = (("call", 1, (thing,)),) + say(*[own(k) for k in range(owns)])
        middle = (1, 0, (("call", 2, (par(0),)),) + say(par(0)))
        last = (1, 0, (put(par(0), 2), put(cell(2), 1)) + say(par(0)))
        program = ((0, owns, steps), middle, last)
        return {
            (one, other): ran(program, ((), (one,), (other,)), cells)
            for one, other in itertools.product(WAYS, repeat=2)
        }

    def test_a_cell(self):
        told = self.outcomes(cell(0), (0, 0, 0))
        for (one, other), outcome in told.items():
            kept = other != "copy"
            through = kept and one != "copy"
            said = [2, 2 if kept else 0]
            self.assertEqual(outcome, (said, (2 if through else 0, 0, 1)), (one, other))

    def test_an_own_cell(self):
        told = self.outcomes(own(0), (0, 0, 0), owns=2)
        for (one, other), outcome in told.items():
            kept = other != "copy"
            through = kept and one != "copy"
            said = [2, 2 if kept else 0, 2 if through else 0, 0]
            self.assertEqual(outcome, (said, (0, 0, 1)), (one, other))

    def test_a_cell_that_is_set_by_its_number_too(self):
        told = self.outcomes(cell(2), (0, 0, 0))
        self.assertEqual(told, {
            ("copy", "copy"): ([2, 0], (0, 0, 1)),
            ("copy", "place"): ([2, 2], (0, 0, 1)),
            ("copy", "back"): ([2, 2], (0, 0, 1)),
            ("copy", "want"): ([2, 2], (0, 0, 1)),
            ("place", "copy"): ([2, 1], (0, 0, 1)),
            ("place", "place"): ([1, 1], (0, 0, 1)),
            ("place", "back"): ([2, 2], (0, 0, 2)),
            ("place", "want"): ([1, 1], (0, 0, 1)),
            ("back", "copy"): ([2, 0], (0, 0, 0)),
            ("back", "place"): ([2, 2], (0, 0, 2)),
            ("back", "back"): ([2, 2], (0, 0, 2)),
            ("back", "want"): ([2, 2], (0, 0, 2)),
            ("want", "copy"): ([2, 1], (0, 0, 1)),
            ("want", "place"): ([1, 1], (0, 0, 1)),
            ("want", "back"): ([2, 2], (0, 0, 2)),
            ("want", "want"): ([1, 1], (0, 0, 1)),
        })

    def test_what_is_no_place(self):
        for thing in (num(1), plus(num(1), cell(2))):
            told = self.outcomes(thing, (0, 0, 0))
            wanted = 2 if thing[0] == "sum" else 1
            for one, other in itertools.product(("copy", "place", "back"), WAYS):
                said = [2, 1 if other == "copy" else 2]
                self.assertEqual(told[one, other], (said, (0, 0, 1)), (one, other))
            # A want of what is no place is a new cell by each other way, and
            # neither a set nor what is laid back changes what is wanted.
            for other in ("copy", "place", "back"):
                self.assertEqual(told["want", other], ([2, wanted], (0, 0, 1)), other)
            self.assertEqual(told["want", "want"], ([wanted, wanted], (0, 0, 1)))

    def test_a_cell_of_a_number_that_changes(self):
        # Work 1 sets the number before it hands on, work 2 sets it again.
        middle = (1, 0, (put(cell(0), 1), ("call", 2, (par(0),))) + say(par(0)))
        last = (1, 0, (put(cell(0), 2),) + say(par(0)) + (put(par(0), 0),))
        program = ((0, 0, (("call", 1, (("cell", cell(0)),)),)), middle, last)
        told = {
            ("place", "place"): ([2, 0], (0, 1, 1)),
            ("place", "back"): ([1, 0], (0, 1, 1)),
            ("place", "want"): ([2, 0], (0, 1, 1)),
            ("want", "copy"): ([1, 1], (2, 1, 1)),
            ("want", "place"): ([1, 1], (2, 0, 1)),
            ("want", "back"): ([1, 1], (2, 0, 1)),
            ("want", "want"): ([1, 0], (2, 1, 0)),
            ("back", "want"): ([0, 0], (0, 1, 1)),
            ("copy", "back"): ([0, 0], (2, 1, 1)),
        }
        for (one, other), (said, after) in told.items():
            with self.subTest(ways=(one, other)):
                self.check(program, ((), (one,), (other,)), (0, 1, 1), said, after)

    def test_through_three_works(self):
        first = (0, 1, (put(own(0), 1), ("call", 1, (own(0),))) + say(own(0)))
        second = (1, 1, (put(own(0), 2), ("call", 2, (own(0), par(0)))) + say(own(0), par(0)))
        third = (2, 0, (("call", 3, (par(1), par(0), par(1))),) + say(par(0), par(1)))
        last = (3, 0, (put(par(0), 0), put(par(1), 0)) + say(par(2)))
        program = (first, second, third, last)
        self.check(program, ((), ("place",), ("place",) * 2, ("place",) * 3), (0, 0, 0), [0, 0, 0, 0, 0, 0], (0, 0, 0))
        self.check(program, ((), ("want",), ("want",) * 2, ("want",) * 3), (0, 0, 0), [0, 0, 0, 0, 0, 0], (0, 0, 0))
        self.check(program, ((), ("place",), ("copy", "want"), ("want", "place", "copy")), (0, 0, 0),
                   [1, 0, 0, 2, 0, 0], (0, 0, 0))
        self.check(program, ((), ("back",), ("back", "back"), ("back", "back", "copy")), (0, 0, 0),
                   [1, 0, 0, 0, 0, 0], (0, 0, 0))
        self.check(program, ((), ("back",), ("back", "back"), ("back", "back", "back")), (0, 0, 0),
                   [1, 0, 1, 0, 1, 1], (0, 0, 0))
        self.check(program, ((), ("copy",), ("place", "place"), ("want", "want", "want")), (0, 0, 0),
                   [0, 0, 0, 0, 0, 1], (0, 0, 0))
        self.check(program, ((), ("place",), ("want", "back"), ("place", "place", "want")), (0, 0, 0),
                   [0, 0, 0, 0, 0, 0], (0, 0, 0))

    def test_a_want_of_a_want_is_reckoned_for_the_work_that_calls(self):
        # Each work has an own cell 0 with a number of its own.
        first = (0, 1, (put(own(0), 1), ("call", 1, (plus(own(0), cell(0)),))))
        second = (1, 1, (put(own(0), 2), ("call", 2, (plus(par(0), own(0)), own(0)))))
        third = (2, 1, say(par(0), par(1)) + (put(cell(0), 1), put(par(1), 0), put(own(0), 2)) + say(par(0), par(1)))
        program = (first, second, third)
        self.check(program, ((), ("want",), ("want", "want")), (0, 0, 0), [0, 2, 2, 0], (1, 0, 0))
        self.check(program, ((), ("copy",), ("want", "want")), (0, 0, 0), [0, 2, 1, 0], (1, 0, 0))
        self.check(program, ((), ("want",), ("copy", "want")), (0, 0, 0), [0, 2, 0, 0], (1, 0, 0))
        self.check(program, ((), ("want",), ("want", "copy")), (0, 0, 0), [0, 2, 1, 0], (1, 0, 0))

    def test_a_want_of_what_is_no_place_through_wants(self):
        first = (0, 0, (("call", 1, (plus(cell(0), num(1)),)),))
        second = (1, 0, (put(par(0), 0), ("call", 2, (par(0),))) + say(par(0)))
        third = (1, 0, (put(par(0), 0), put(cell(0), 1)) + say(par(0)))
        self.check((first, second, third), ((), ("want",), ("want",)), (0, 0, 0), [2, 2], (1, 0, 0))
        self.check((first, second, third), ((), ("want",), ("back",)), (0, 0, 0), [0, 2], (1, 0, 0))
        self.check((first, second, third), ((), ("want",), ("place",)), (0, 0, 0), [0, 2], (1, 0, 0))

    def test_cells_of_a_param_find_anew_by_want(self):
        second = (1, 0, (("call", 2, (("cell", par(0)),)),))
        third = (1, 0, (put(cell(0), 2),) + say(par(0)) + (put(par(0), 1),))
        program = ((0, 0, (("call", 1, (cell(0),)),)), second, third)
        told = {
            ("want", "want"): ([0], (2, 2, 1)),
            ("place", "want"): ([0], (2, 2, 1)),
            ("copy", "want"): ([2], (2, 1, 0)),
            ("want", "place"): ([2], (2, 1, 0)),
            ("want", "back"): ([2], (2, 1, 0)),
            ("want", "copy"): ([2], (2, 2, 0)),
        }
        for (one, other), (said, after) in told.items():
            with self.subTest(ways=(one, other)):
                self.check(program, ((), (one,), (other,)), (1, 2, 0), said, after)

    def test_a_work_that_is_called_twice_keeps_nothing(self):
        second = (1, 1, say(par(0), own(0)) + (put(par(0), 2), put(own(0), 2)))
        program = ((0, 1, (("call", 1, (own(0),)), ("call", 1, (cell(1),)), ("call", 1, (own(0),)))), second)
        self.check(program, ((), ("place",)), (0, 0, 0), [0, 0, 0, 0, 2, 0], (0, 2, 0))
        self.check(program, ((), ("copy",)), (0, 0, 0), [0, 0, 0, 0, 0, 0], (0, 0, 0))


class Refused(Base):
    def refused(self, refusal, program, ways, cells):
        with self.assertRaises(refusal) as caught:
            ran(program, ways, cells)
        self.assertIsInstance(caught.exception, HandError)
        self.assertIsInstance(caught.exception, ValueError)
        for other in {BadProgram, BadWays, BadCells, BadText} - {refusal}:
            self.assertNotIsInstance(caught.exception, other)

    def test_cells(self):
        program = ((0, 0, ()),)
        wrong = (
            (), (0,), (0, 0), (0, 0, 0, 0), (0,) * 20,
            (3, 0, 0), (0, 3, 0), (0, 0, 3), (-1, 0, 0), (0, 0, -1), (0, 10 ** 30, 0),
            (True, 0, 0), (0, False, 0), (0, 0, True),
        )
        for cells in wrong:
            self.refused(BadCells, program, ((),), cells)

    def test_of_several_the_first_that_is_handed_in(self):
        good = ((0, 0, ()), (1, 0, ()))
        bad = ((0, 0, ()), (4, 0, ()))
        for cells in ((0, 0, 0), (0, 0), (0, 0, 3)):
            for ways in (((), ("copy",)), ((),), ((), ("none",)), ((), ("want",) * 4)):
                self.refused(BadProgram, bad, ways, cells)
            for ways in (((),), ((), ("none",)), ((), ())):
                self.refused(BadWays, good, ways, cells)
        self.refused(BadCells, good, ((), ("copy",)), (0, 0, 3))

    def test_what_is_never_done_is_refused_too(self):
        wrong = ("say", ("num", True))
        self.refused(BadProgram, ((0, 0, (("if", num(1), (), (wrong,)),)),), ((),), (0, 0, 0))
        self.refused(BadProgram, ((0, 0, ()), (0, 0, (wrong,))), ((), ()), (0, 0, 0))
        self.refused(BadWays, ((0, 0, ()), (1, 0, ())), ((), ("none",)), (0, 0, 0))


if __name__ == "__main__":
    unittest.main()
