"""Point [9]: whether a place that is lent is come to by another road."""

import unittest

from handways.beside import mixed
from handways.errors import BadProgram, BadWays

from maker import ALL_CELLS, WAYS, call, cell, num, only_on, own, par, plus, put, say, work, within
from refusing import NO_PROGRAMS, Refusing

ALWAYS = (0, 0, 0)


class Base(unittest.TestCase):
    def of(self, works, ways, told):
        """The ways are a text for each work but work 0, of its ways."""
        rows = ((),) + tuple(tuple(row.split()) for row in ways)
        with self.subTest(ways=ways):
            self.assertEqual(mixed(tuple(works), rows), told)

    def by_one(self, thing, later, told, owns=0, at=ALWAYS):
        """Work 0 hands the thing to work 1; told has the ways by which it is mixed."""
        for way in WAYS:
            self.of((work(0, call(1, thing), owns=owns), later), [way], at if way in told else None)

    def by_two(self, one, other, later, told, owns=0, at=ALWAYS):
        for first in WAYS:
            for second in WAYS:
                ways = first + " " + second
                self.of((work(0, call(1, one, other), owns=owns), later), [ways], at if ways in told else None)


class OneParam(Base):
    def test_nothing_is_lent(self):
        steps = say(cell(0), own(0)) + (put(cell(0), 1), put(own(0), 1), call(1), ("set", cell(0), own(0)))
        self.of((work(0, *steps, owns=1), work(0, *say(cell(0)))), [""], None)

    def test_come_to_by_the_param_alone(self):
        steps = say(par(0)) + (put(par(0), 1), ("if", par(0), say(par(0)), ()), ("set", par(0), plus(par(0), num(1))))
        for thing in (cell(0), own(0), num(1), plus(cell(0), own(0)), ("cell", cell(0))):
            self.by_one(thing, work(1, *steps), (), owns=1)

    def test_come_to_by_its_number(self):
        place_and_back = ("place", "back")
        for step in (
            *say(cell(0)),
            *say(plus(num(1), plus(cell(0), num(1)))),
            *say(("cell", cell(0))),
            put(cell(0), 0),
            ("set", cell(0), cell(1)),
            ("set", cell(1), cell(0)),
            put(("cell", cell(0)), 1),
            ("if", cell(0), (), ()),
            within(("say", cell(0)), 4),
        ):
            self.by_one(cell(0), work(1, step), place_and_back)

    def test_other_places_are_not_lent(self):
        steps = say(cell(1), cell(2), own(0)) + (put(cell(1), 1), put(own(0), 2), ("if", cell(2), (), ()))
        self.by_one(cell(0), work(1, *steps, owns=1), (), owns=1)
        self.by_one(own(0), work(1, *steps, *say(cell(0)), owns=1), (), owns=1)

    def test_what_is_not_done(self):
        step = ("if", num(0), say(cell(0)), ())
        self.by_one(cell(0), work(1, step), ())

    def test_handed_in_the_work_by_its_number(self):
        for way in ("copy", "place", "back"):
            works = (work(0, call(1, cell(0))), work(1, call(2, cell(0))), work(1))
            for first in ("place", "back"):
                self.of(works, [first, way], ALWAYS)
            for first in ("copy", "want"):
                self.of(works, [first, way], None)

    def test_by_want_it_is_come_to_when_it_is_asked(self):
        works = [work(0, call(1, cell(0))), work(1, call(2, cell(0))), work(1)]
        self.of(works, ["place", "want"], None)
        works[2] = work(1, *say(par(0)))
        self.of(works, ["place", "want"], ALWAYS)
        works[2] = work(1, put(par(0), 1))
        self.of(works, ["back", "want"], ALWAYS)
        works[2] = work(1, *say(("cell", plus(par(0), num(1)))))
        self.of(works, ["back", "want"], ALWAYS)

    def test_a_cell_is_found_by_a_number_that_is_asked(self):
        inner = work(1)
        for way in ("copy", "place", "back"):
            works = (work(0, call(1, cell(0))), work(1, call(2, ("cell", plus(cell(0), num(1))))), inner)
            self.of(works, ["place", way], ALWAYS)
            self.of(works, ["copy", way], None)
        self.of(works, ["place", "want"], None)

    def test_by_a_work_that_is_called_within(self):
        works = (work(0, call(1, own(0)), call(1, cell(0)), owns=1), work(1, call(2)), work(0, *say(cell(0))))
        self.of(works, ["place", ""], ALWAYS)
        self.of(works, ["back", ""], ALWAYS)
        self.of(works, ["copy", ""], None)
        self.of(works, ["want", ""], None)


class When(Base):
    def test_behind_the_call(self):
        steps = say(cell(0)) + (put(cell(0), 1), ("if", cell(0), (), ()))
        for way in WAYS:
            works = (work(0, call(1, cell(0)), *steps), work(1, put(par(0), 2)))
            self.of(works, [way], None)

    def test_ahead_of_the_call(self):
        for way in WAYS:
            self.of((work(0, *say(cell(0)), put(cell(0), 1), call(1, cell(0))), work(1)), [way], None)

    def test_one_call_behind_another(self):
        for way in WAYS:
            self.of((work(0, call(1, cell(0)), call(1, cell(0)), call(1, cell(0))), work(1, *say(par(0)))), [way], None)

    def test_lent_again_within(self):
        # What a call within has lent is no longer lent behind that call.
        works = (work(0, call(1, cell(0))), work(1, call(2, par(0)), *say(par(0)), put(par(0), 1), call(2, par(0))),
                 work(1, *say(par(0))))
        for first in WAYS:
            for second in WAYS:
                self.of(works, [first, second], None)

    def test_still_lent_behind_a_call_within(self):
        works = (work(0, call(1, cell(0))), work(1, call(2, par(0)), *say(cell(0))), work(1))
        for way in WAYS:
            self.of(works, ["place", way], ALWAYS)
            self.of(works, ["back", way], ALWAYS)
            self.of(works, ["copy", way], None)
            self.of(works, ["want", way], None)

    def test_its_own_number_is_asked_ahead(self):
        # Cell 0 is found by its own number, and is lent only then.
        self.by_one(("cell", cell(0)), work(1, *say(par(0))), ())
        works = (work(0, call(1, ("cell", cell(0)))), work(1, *say(cell(0))))
        for way in ("place", "back"):
            self.of(works, [way], (0, 0, 0))

    def test_what_is_laid_back_does_not_count(self):
        # Cell 0 is lent to work 1, which hands it on by back: it is set behind
        # work 2 by no road, while it is lent.
        works = (work(0, call(1, cell(0))), work(1, call(2, par(0)), *say(par(0))), work(1, put(par(0), 2)))
        self.of(works, ["place", "back"], None)
        self.of(works, ["back", "back"], None)
        self.of(works, ["want", "back"], None)


class SeveralParams(Base):
    def test_the_same_place_twice(self):
        # The first is lent when the second one is found or asked.
        told = [first + " " + second for first in ("place", "back") for second in ("copy", "place", "back")]
        for thing in (cell(0), own(0)):
            self.by_two(thing, thing, work(2), told, owns=1)
            self.by_two(thing, plus(num(1), thing), work(2), told, owns=1)

    def test_the_same_place_twice_and_both_asked(self):
        told = [first + " " + second for first in ("place", "back") for second in WAYS]
        told += ["want place", "want back"]
        self.by_two(cell(0), cell(0), work(2, *say(par(0), par(1))), told)
        self.by_two(own(0), own(0), work(2, put(par(0), 1), put(par(1), 2)), told, owns=1)

    def test_only_one_is_asked(self):
        first = [first + " " + second for first in ("place", "back") for second in ("copy", "place", "back")]
        self.by_two(cell(0), cell(0), work(2, *say(par(0))), first + ["want place", "want back"])
        self.by_two(cell(0), cell(0), work(2, *say(par(1))), first + ["place want", "back want"])

    def test_found_for_a_later_param_of_the_same_call(self):
        # Cell 0 is asked for the number of the cell.
        told = [first + " " + second for first in ("place", "back") for second in ("copy", "place", "back")]
        self.by_two(cell(0), ("cell", plus(cell(0), num(1))), work(2), told)
        # The other way round it is asked ahead of what lends it; but on (2, 0, 0)
        # it is itself the cell that is found.
        self.by_two(("cell", plus(cell(0), num(1))), cell(0), work(2), told, at=(2, 0, 0))

    def test_three_params(self):
        works = (work(0, call(1, cell(0), cell(1), cell(0))), work(3))
        for way in ("copy", "place", "back"):
            self.of(works, ["place copy " + way], ALWAYS)
            self.of(works, ["back place " + way], ALWAYS)
            self.of(works, ["copy place " + way], None)
            self.of(works, ["want want " + way], None)
        works = (work(0, call(1, cell(1), cell(0), cell(0))), work(3))
        self.of(works, ["place copy place"], None)
        self.of(works, ["copy back copy"], ALWAYS)

    def test_other_places_beside(self):
        self.by_two(cell(0), cell(1), work(2, *say(par(0), par(1)), put(par(0), 1), put(par(1), 1)), ())
        self.by_two(own(0), own(1), work(2, put(par(0), 1), put(par(1), 1), *say(par(0), par(1))), (), owns=2)
        self.by_two(cell(0), own(0), work(2, *say(par(1), par(0))), (), owns=1)


class HandedOn(Base):
    """Cell 0 is handed to work 1, which hands it to work 2 once or twice."""

    def test_by_each_two_ways(self):
        works = (work(0, call(1, cell(0))), work(1, call(2, par(0))), work(1, *say(par(0)), put(par(0), 1)))
        for first in WAYS:
            for second in WAYS:
                self.of(works, [first, second], None)

    def test_by_each_three_ways(self):
        works = (work(0, call(1, own(0)), owns=1), work(1, call(2, par(0)), *say(par(0))),
                 work(1, call(3, par(0)), *say(par(0))), work(1, *say(par(0)), put(par(0), 1)))
        for first in WAYS:
            for second in WAYS:
                for third in WAYS:
                    self.of(works, [first, second, third], None)

    def test_by_place_and_by_the_way_around_it(self):
        # By want it is the road of work 1, which doesn't go through what work 1 lends.
        works = (work(0, call(1, cell(0))), work(1, call(2, par(0), par(0))), work(2, *say(par(1))))
        for first in WAYS:
            self.of(works, [first, "place want"], ALWAYS)
            self.of(works, [first, "back want"], ALWAYS)
            self.of(works, [first, "want want"], None)
            self.of(works, [first, "copy want"], None)
            self.of(works, [first, "copy place"], None)
            self.of(works, [first, "want place"], None)
            self.of(works, [first, "want back"], None)
            self.of(works, [first, "place copy"], ALWAYS)

    def test_by_want_of_a_place_the_road_goes_through_it(self):
        works = (work(0, call(1, cell(0))), work(1, call(2, par(0))), work(1, call(3, par(0))), work(1, *say(par(0))))
        self.of(works, ["place", "want", "want"], None)
        self.of(works, ["place", "want", "place"], None)
        self.of(works, ["place", "place", "want"], None)
        self.of(works, ["want", "place", "want"], None)
        self.of(works, ["back", "want", "place"], None)

    def test_the_cell_of_the_first_work_is_come_to_by_its_number(self):
        works = (work(0, call(1, cell(0))), work(1, call(2, par(0))), work(1, call(3, par(0))),
                 work(1, *say(cell(0))))
        for first in WAYS:
            for second in WAYS:
                for third in WAYS:
                    ways = [first, second, third]
                    # It is lent if it is handed by place or back before it is copied.
                    lent = [way for way in ways if way != "want"]
                    told = ALWAYS if lent and lent[0] != "copy" else None
                    self.of(works, ways, told)

    def test_through_back_of_two_works_and_more(self):
        # Each back makes a new cell, which is lent in its turn.
        works = (work(0, call(1, cell(0))), work(1, call(2, par(0), par(0))), work(2, call(3, par(0), par(1))),
                 work(2, *say(par(0))))
        self.of(works, ["back", "back want", "back want"], None)
        self.of(works, ["back", "want back", "back want"], ALWAYS)
        self.of(works, ["back", "want back", "want back"], ALWAYS)
        self.of(works, ["back", "copy back", "back back"], None)
        self.of(works, ["back", "back copy", "want copy"], ALWAYS)
        self.of(works, ["back", "want want", "want back"], ALWAYS)
        self.of(works, ["back", "want want", "copy back"], None)

    def test_a_road_goes_through_all_that_lends(self):
        # In work 3 cell 0 is lent three times; by want of work 1 or 2 some are missed.
        steps = call(3, par(0), par(0))
        works = (work(0, call(1, cell(0))), work(1, call(2, par(0), par(0))), work(2, steps), work(2, *say(par(0))))
        self.of(works, ["place", "place want", "place want"], None)
        works = works[:3] + (work(2, *say(par(1))),)
        self.of(works, ["place", "place want", "place want"], ALWAYS)
        works = works[:2] + (work(2, call(3, par(0), par(1))), work(2, *say(par(1))))
        self.of(works, ["place", "place want", "copy want"], ALWAYS)
        self.of(works, ["place", "copy want", "place want"], None)
        self.of(works, ["place", "copy place", "place want"], None)
        self.of(works, ["place", "copy place", "place place"], None)

    def test_found_in_the_work_for_place_by_a_road_that_misses_one(self):
        works = (work(0, call(1, cell(0))), work(1, call(2, par(0), par(0))), work(2, call(3, par(1))), work(1))
        for way in ("place", "back", "copy"):
            self.of(works, ["place", "place want", way], ALWAYS)
            self.of(works, ["place", "back want", way], ALWAYS)
            self.of(works, ["place", "copy want", way], None)
        self.of(works, ["place", "place want", "want"], None)

    def test_want_of_a_param_by_copy(self):
        works = (work(0, call(1, cell(0))), work(1, call(2, par(0), par(0))), work(2, put(par(0), 1), *say(par(1))))
        self.of(works, ["copy", "place want"], ALWAYS)
        self.of(works, ["copy", "want place"], ALWAYS)
        self.of(works, ["copy", "want want"], None)


class NoPlaces(Base):
    def test_nothing_is_lent(self):
        for thing in (num(1), plus(cell(0), num(1)), plus(cell(0), cell(0))):
            self.by_one(thing, work(1, *say(cell(0), par(0)), put(par(0), 1), put(cell(0), 1)), ())
            self.by_two(thing, thing, work(2, *say(par(0), par(1)), put(par(0), 1)), ())

    def test_the_new_cell_may_be_lent_in_its_turn(self):
        works = (work(0, call(1, num(1))), work(1, call(2, par(0), par(0))), work(2, *say(par(1))))
        for first in ("copy", "place", "back"):
            self.of(works, [first, "place want"], ALWAYS)
            self.of(works, [first, "back copy"], ALWAYS)
            self.of(works, [first, "want place"], None)
        # By want it is no place within either.
        self.of(works, ["want", "place want"], None)
        self.of(works, ["want", "back copy"], None)

    def test_its_parts_are_asked(self):
        works = (work(0, call(1, cell(0))), work(1, call(2, plus(cell(0), num(1)))), work(1))
        for way in ("copy", "place", "back"):
            self.of(works, ["place", way], ALWAYS)
        self.of(works, ["place", "want"], None)

    def test_its_parts_are_asked_by_their_own_roads(self):
        works = (work(0, call(1, cell(0))), work(1, call(2, plus(par(0), par(0)))), work(1, *say(par(0))))
        for first in WAYS:
            for second in WAYS:
                self.of(works, [first, second], None)

    def test_a_place_within_a_cell_or_a_sum_is_not_lent(self):
        # On (2, 0, 0) it is itself the cell that is found.
        self.by_one(("cell", plus(cell(0), num(1))), work(1, *say(cell(0))), ("place", "back"), at=(2, 0, 0))
        self.by_one(plus(cell(0), cell(0)), work(1, *say(cell(0))), ())


class First(Base):
    def test_on_one_tuple_alone(self):
        for cells in ALL_CELLS:
            works = (work(0, only_on(cells, call(1, cell(0)))), work(1, *say(cell(0))))
            self.of(works, ["place"], cells)
            self.of(works, ["back"], cells)
            self.of(works, ["want"], None)

    def test_the_first_of_several(self):
        for one, other in zip(ALL_CELLS[3:], ALL_CELLS[5:]):
            for pair in ((one, other), (other, one)):
                steps = [only_on(cells, call(1, cell(0))) for cells in pair]
                self.of((work(0, *steps), work(1, *say(cell(0)))), ["place"], one)

    def test_by_numbers(self):
        # Cell 0 holds which cell is lent, and cell 2 which is asked.
        works = (work(0, call(1, ("cell", cell(0)))), work(1, *say(("cell", plus(cell(2), num(1))))))
        # Cell 2 itself is lent if cell 0 holds 2; else the number of cell 2 must fit.
        self.of(works, ["place"], (0, 0, 2))
        self.of(works, ["back"], (0, 0, 2))
        self.of(works, ["copy"], None)
        self.of(works, ["want"], None)

    def test_a_number_that_changes_within(self):
        # The place is the one that was found at the call.
        works = (work(0, call(1, ("cell", cell(0)))),
                 work(1, ("set", cell(0), plus(cell(0), num(1))), *say(("cell", cell(0)))))
        self.of(works, ["place"], (0, 0, 0))
        works = (work(0, call(1, ("cell", cell(1)))), work(1, put(cell(1), 2), *say(cell(0), cell(2))))
        self.of(works, ["place"], (0, 0, 0))
        works = (work(0, call(1, ("cell", cell(1)))), work(1, put(cell(1), 2), *say(cell(2))))
        self.of(works, ["place"], (0, 1, 0))
        self.of(works, ["want"], None)

    def test_kinds_of_values(self):
        told = mixed((work(0, call(1, cell(0))), work(1, *say(cell(0)))), ((), ("place",)))
        self.assertIs(type(told), tuple)
        self.assertEqual([type(number) for number in told], [int] * 3)


class Refused(Refusing):
    def test_the_program(self):
        for program in NO_PROGRAMS:
            for ways in ((), ((),), ((), ("none",))):
                self.refused(BadProgram, mixed, program, ways)

    def test_the_ways(self):
        program = (work(0, call(1, cell(0))), work(1, *say(cell(0))))
        for ways in ((), ((),), ((), ()), ((), ("none",)), ((), ("place", "place")), (("place",), ())):
            self.refused(BadWays, mixed, program, ways)


if __name__ == "__main__":
    unittest.main()
