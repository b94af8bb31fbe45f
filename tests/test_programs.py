"""Points [2] and [3]: what a program is, and the refusal of what is none."""

import unittest

from handways.errors import BadCells, BadProgram, BadText, BadWays, HandError
from handways.programs import need_program

SAY = ("say", ("num", 0))
ZERO = ("num", 0)


def only(*steps, owns=0):
    """A program of one work with these steps."""
    return ((0, owns, steps),)


def within_ifs(step, depth, branch=0):
    """The step within so many others, by their first or second bodies."""
    for _ in range(depth):
        bodies = ((step,), ()) if branch == 0 else ((), (step,))
        step = ("if", ZERO) + bodies
    return step


def within_things(thing, depth, how):
    """The thing within so many others."""
    for _ in range(depth):
        thing = how(thing)
    return thing


def in_cell(thing):
    return ("cell", thing)


def in_sum(thing):
    return ("sum", thing, ZERO)


def in_sum_behind(thing):
    return ("sum", ZERO, thing)


class Base(unittest.TestCase):
    def good(self, program):
        self.assertIsNone(need_program(program))

    def bad(self, program):
        with self.assertRaises(BadProgram) as caught:
            need_program(program)
        self.assertIsInstance(caught.exception, HandError)
        self.assertIsInstance(caught.exception, ValueError)
        for other in (BadWays, BadCells, BadText):
            self.assertNotIsInstance(caught.exception, other)


class Works(Base):
    def test_one_to_four_works(self):
        work = (0, 0, ())
        for many in (1, 2, 3, 4):
            self.good((work,) * many)
        for many in (0, 5, 6, 50):
            self.bad((work,) * many)

    def test_a_work_has_three_parts(self):
        for work in ((), (0,), (0, 0), (0, 0, (), ())):
            self.bad((work,))
            self.bad(((0, 0, ()), work))

    def test_params(self):
        for params in (0, 1, 2, 3):
            self.good(((0, 0, ()), (params, 0, ())))
        for params in (-1, 4, 5, 100, 10 ** 30):
            self.bad(((0, 0, ()), (params, 0, ())))

    def test_each_work_is_looked_at(self):
        for at in (1, 2, 3):
            works = [(0, 0, ())] * 4
            works[at] = (4, 0, ())
            self.bad(tuple(works))
            works[at] = (3, 100, ())
            self.bad(tuple(works))
            works[at] = (3, 0, (("none",),))
            self.bad(tuple(works))
            works[at] = (3, 99, (("say", ("par", 2)), ("say", ("own", 98))))
            self.good(tuple(works))

    def test_nothing_is_handed_to_work_0(self):
        for params in (1, 2, 3, -1):
            self.bad(((params, 0, ()),))
            self.bad(((params, 0, ()), (0, 0, ())))

    def test_own_cells(self):
        for owns in (0, 1, 98, 99):
            self.good(((0, owns, ()),))
        for owns in (-1, 100, 101, 10 ** 30):
            self.bad(((0, owns, ()),))

    def test_truths_are_no_counts(self):
        for truth in (True, False):
            self.bad(((truth, 0, ()),))
            self.bad(((0, truth, ()),))
            self.bad(((0, 0, ()), (truth, 0, ())))

    def test_the_body_is_a_tuple(self):
        for body in ("", "say", 0, True):
            self.bad(((0, 0, body),))


class Steps(Base):
    def test_at_most_100_steps(self):
        for many in (0, 1, 40, 99, 100):
            self.good(only(*[SAY] * many))
        for many in (101, 102, 1000):
            self.bad(only(*[SAY] * many))

    def test_steps_within_others_count(self):
        for rest in (0, 1, 50):
            both = ("if", ZERO, (SAY,) * 30, (SAY,) * (69 - rest))
            self.good(only(both, *[SAY] * rest))
            self.bad(only(both, *[SAY] * (rest + 1)))
            self.bad(only(*[SAY] * (rest + 1), both))

    def test_each_work_has_its_own_count(self):
        self.good(((0, 0, (SAY,) * 100),) * 4)
        self.bad(((0, 0, (SAY,) * 100), (0, 0, (SAY,) * 101)))

    def test_within_at_most_four_others(self):
        for branch in (0, 1):
            for depth in (0, 1, 2, 3, 4):
                self.good(only(within_ifs(SAY, depth, branch)))
            for depth in (5, 6, 50):
                self.bad(only(within_ifs(SAY, depth, branch)))

    def test_each_kind_of_step_within_others(self):
        for step in (("set", ("cell", ZERO), ZERO), ("if", ZERO, (), ()), ("call", 1, ())):
            later = (0, 0, ())
            self.good(((0, 0, (within_ifs(step, 4),)), later))
            self.bad(((0, 0, (within_ifs(step, 5),)), later))

    def test_a_wrong_step_within_others(self):
        for branch in (0, 1):
            for depth in (0, 1, 4):
                self.bad(only(within_ifs(("say", ("num", 3)), depth, branch)))

    def test_many_steps_within_many_are_refused_at_once(self):
        step = SAY
        for _ in range(5):
            step = ("if", ZERO, (step,) * 100, (step,) * 100)
        self.bad(only(step))

    def test_no_steps(self):
        for step in ("say", "", 0, 1, True, False, (), ("",), ("say",), (0,), ((),), (True,), (("say",),)):
            self.bad(only(step))
            self.bad(only(SAY, step))

    def test_words(self):
        for word in ("Say", "says", "", "sum", "num", "cell", 0, True, (), ("say",)):
            self.bad(only((word, ZERO)))

    def test_the_parts_of_each_step(self):
        good = (
            ("set", ("cell", ZERO), ZERO),
            ("say", ZERO),
            ("if", ZERO, (), ()),
            ("call", 1, ()),
        )
        for step in good:
            self.good(((0, 0, (step,)), (0, 0, ())))
            self.bad(((0, 0, (step[:-1],)), (0, 0, ())))
            self.bad(((0, 0, (step + ((),),)), (0, 0, ())))
            self.bad(((0, 0, (step + (ZERO,),)), (0, 0, ())))
            self.bad(((0, 0, (step[1:],)), (0, 0, ())))

    def test_a_place_is_set(self):
        for place in (("cell", ZERO), ("cell", ("par", 2)), ("own", 0), ("own", 1), ("par", 0), ("par", 2)):
            self.good(((0, 0, ()), (3, 2, (("set", place, ZERO),))))
        for place in (ZERO, ("sum", ZERO, ZERO), ("own", 2), ("par", 3), ("cell", 0), ("cell",), (), 0, "own", True):
            self.bad(((0, 0, ()), (3, 2, (("set", place, ZERO),))))

    def test_a_thing_is_set_said_and_asked(self):
        for thing in ((), 0, "num", True, ("num", 3), ("say", ZERO), ("own", 0), ("par", 0)):
            self.bad(only(("set", ("cell", ZERO), thing)))
            self.bad(only(("say", thing)))
            self.bad(only(("if", thing, (), ())))
            self.bad(((0, 0, (("call", 1, (thing,)),)), (1, 1, ())))

    def test_bodies_are_tuples(self):
        for body in ("", 0, True, SAY, (ZERO,)):
            self.bad(only(("if", ZERO, body, ())))
            self.bad(only(("if", ZERO, (), body)))


class Calls(Base):
    def test_only_later_works_are_called(self):
        for caller in range(4):
            for called in range(-2, 7):
                works = [(0, 0, ())] * 4
                works[caller] = (0, 0, (("call", called, ()),))
                if caller < called < 4:
                    self.good(tuple(works))
                else:
                    self.bad(tuple(works))

    def test_no_work_of_that_number(self):
        self.bad(only(("call", 1, ())))
        self.bad(((0, 0, (("call", 2, ()),)), (0, 0, ())))

    def test_as_many_things_as_params(self):
        for params in range(4):
            for many in range(6):
                program = ((0, 0, (("call", 1, (ZERO,) * many),)), (params, 0, ()))
                if params == many:
                    self.good(program)
                else:
                    self.bad(program)

    def test_the_params_are_those_of_the_called_work(self):
        works = ((0, 0, ()), (1, 0, ()), (2, 0, ()), (3, 0, ()))
        for called in (1, 2, 3):
            for many in (1, 2, 3):
                program = ((0, 0, (("call", called, (ZERO,) * many),)),) + works[1:]
                if called == many:
                    self.good(program)
                else:
                    self.bad(program)

    def test_what_is_handed_is_of_the_work_that_calls(self):
        def program(thing):
            return ((0, 0, ()), (1, 1, (("call", 2, (thing,)),)), (1, 3, ()))

        self.good(program(("own", 0)))
        self.bad(program(("own", 1)))
        self.good(program(("par", 0)))
        self.bad(program(("par", 1)))

    def test_truths_are_no_works(self):
        for truth in (True, False):
            self.bad(((0, 0, (("call", truth, ()),)), (0, 0, ())))

    def test_what_is_no_work_or_no_tuple_of_things(self):
        for work in ("1", "", (), (1,)):
            self.bad(((0, 0, (("call", work, ()),)), (0, 0, ())))
        for things in ("", "a", 0, True):
            self.bad(((0, 0, (("call", 1, things),)), (0, 0, ())))
            self.bad(((0, 0, (("call", 1, things),)), (1, 0, ())))

    def test_each_thing_is_looked_at(self):
        for at in range(3):
            things = [ZERO] * 3
            things[at] = ("num", 3)
            self.bad(((0, 0, (("call", 1, tuple(things)),)), (3, 0, ())))


class Things(Base):
    def say(self, thing, params=0, owns=0):
        return ((0, 0, ()), (params, owns, (("say", thing),)))

    def test_num(self):
        for number in (0, 1, 2):
            self.good(self.say(("num", number)))
        for number in (-1, 3, 4, 10 ** 30, True, False, "1", "", (), (1,)):
            self.bad(self.say(("num", number)))

    def test_own(self):
        for owns in (0, 1, 2, 99):
            for k in (0, owns - 1):
                if owns:
                    self.good(self.say(("own", k), 3, owns))
            for k in (-1, owns, owns + 1, 100):
                self.bad(self.say(("own", k), 3, owns))

    def test_par(self):
        for params in (0, 1, 2, 3):
            for k in range(-1, 5):
                if 0 <= k < params:
                    self.good(self.say(("par", k), params, 99))
                else:
                    self.bad(self.say(("par", k), params, 99))

    def test_own_and_par_of_work_0(self):
        self.good(only(("say", ("own", 4)), owns=5))
        self.bad(only(("say", ("own", 5)), owns=5))
        self.bad(only(("say", ("par", 0)), owns=5))

    def test_own_and_par_have_numbers(self):
        for k in (True, False, "0", "", (), ZERO):
            self.bad(self.say(("own", k), 3, 99))
            self.bad(self.say(("par", k), 3, 99))

    def test_cell_has_a_thing(self):
        for thing in (ZERO, ("num", 2), ("own", 0), ("par", 0), ("cell", ZERO), ("sum", ZERO, ZERO)):
            self.good(self.say(("cell", thing), 1, 1))
        for thing in (0, 1, 2, 3, "", (), True, ("num", 3), ("own", 1), ("par", 1)):
            self.bad(self.say(("cell", thing), 1, 1))

    def test_sum_has_two_things(self):
        self.good(self.say(("sum", ("par", 0), ("own", 0)), 1, 1))
        for thing in (0, "", (), True, ("num", 3), ("own", 1), ("par", 1), ("say", ZERO)):
            self.bad(self.say(("sum", thing, ZERO), 1, 1))
            self.bad(self.say(("sum", ZERO, thing), 1, 1))

    def test_parts(self):
        for thing in (ZERO, ("own", 0), ("par", 0), ("cell", ZERO), ("sum", ZERO, ZERO)):
            self.good(self.say(thing, 1, 1))
            self.bad(self.say(thing[:-1], 1, 1))
            self.bad(self.say(thing + (ZERO,), 1, 1))
            self.bad(self.say(thing + (0,), 1, 1))
            self.bad(self.say(thing[1:], 1, 1))

    def test_words(self):
        for word in ("Num", "number", "", "say", "set", 0, True, (), ("num",)):
            self.bad(self.say((word, 0), 1, 1))
            self.bad(self.say((word, ZERO), 1, 1))
            self.bad(self.say((word, ZERO, ZERO), 1, 1))

    def test_within_at_most_four_others(self):
        for how in (in_cell, in_sum, in_sum_behind):
            for leaf in (("num", 2), ("own", 0), ("par", 0)):
                for depth in (0, 1, 2, 3, 4):
                    self.good(self.say(within_things(leaf, depth, how), 1, 1))
                for depth in (5, 6, 50):
                    self.bad(self.say(within_things(leaf, depth, how), 1, 1))

    def test_sums_and_cells_count_together(self):
        self.good(self.say(in_cell(in_sum(in_cell(in_sum_behind(ZERO))))))
        self.bad(self.say(in_cell(in_sum(in_cell(in_sum_behind(in_cell(ZERO)))))))
        self.bad(self.say(in_sum(in_cell(in_sum(in_cell(in_sum(ZERO)))))))

    def test_greatest_depth_wherever_a_thing_stands(self):
        good = within_things(ZERO, 4, in_sum)
        bad = within_things(ZERO, 5, in_sum)
        for thing, look in ((good, self.good), (bad, self.bad)):
            look(only(("set", ("cell", ZERO), thing)))
            look(only(("if", thing, (), ())))
            look(only(within_ifs(("say", thing), 4)))
            look(((0, 0, (("call", 1, (ZERO, thing)),)), (2, 0, ())))

    def test_greatest_depth_in_a_place_that_is_set(self):
        self.good(only(("set", within_things(ZERO, 4, in_cell), ZERO)))
        self.bad(only(("set", within_things(ZERO, 5, in_cell), ZERO)))

    def test_far_too_deep(self):
        self.bad(self.say(within_things(ZERO, 5000, in_cell)))
        self.bad(only(within_ifs(SAY, 5000)))
        deep = ()
        for _ in range(5000):
            deep = (deep,)
        self.bad(only(deep))
        self.bad(self.say(deep))
        self.bad(self.say(("num", deep)))
        self.bad(self.say((deep, 0)))


if __name__ == "__main__":
    unittest.main()
