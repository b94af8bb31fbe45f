"""Point [8]: where two ways part, and which ways come to the same."""

import itertools
import unittest

from handways.beside import classes, parted
from handways.errors import BadProgram, BadWays
from handways.running import ran

from maker import ALL_CELLS, WAYS, Maker, call, cell, num, only_on, own, par, plus, put, say, work
from refusing import NO_PROGRAMS, Refusing

# By place and want cell 0 is set at once, by back at the end, by copy not at all.
SETS = work(1, put(par(0), 2), *say(cell(0)))
APART = (work(0, call(1, cell(0)), *say(cell(0))), SETS)


def row_of(program, way):
    return tuple((way,) * params for params, owns, body in program)


def by_hand(program, one, other):
    """What parted is to tell, by all runs."""
    unlike = [cells for cells in ALL_CELLS if ran(program, one, cells) != ran(program, other, cells)]
    return unlike[0] if unlike else None


class Parted(unittest.TestCase):
    def test_the_same_ways(self):
        for way in WAYS:
            self.assertIsNone(parted(APART, ((), (way,)), ((), (way,))))
        self.assertIsNone(parted((work(0, *say(cell(0))),), ((),), ((),)))

    def test_alike_by_other_ways(self):
        self.assertIsNone(parted(APART, ((), ("place",)), ((), ("want",))))
        self.assertIsNone(parted(APART, ((), ("want",)), ((), ("place",))))

    def test_unlike_on_all_cells_but_some(self):
        # Cell 0 is said within the work, so that by back it is said as it was:
        # that is the same only where it has the 2 that is set.
        self.assertEqual(parted(APART, ((), ("back",)), ((), ("place",))), (0, 0, 0))

    def test_on_one_tuple_alone(self):
        for cells in ALL_CELLS:
            flip = ("set", par(0), plus(par(0), num(1)))
            program = (work(0, only_on(cells, call(1, cell(1)))), work(1, flip))
            with self.subTest(cells=cells):
                self.assertEqual(parted(program, ((), ("copy",)), ((), ("place",))), cells)
                self.assertEqual(parted(program, ((), ("want",)), ((), ("copy",))), cells)
                self.assertIsNone(parted(program, ((), ("back",)), ((), ("place",))))

    def test_the_first_of_several(self):
        flip = ("set", par(0), plus(par(0), num(1)))
        for pair in itertools.combinations(ALL_CELLS[::4], 2):
            for one, other in (pair, pair[::-1]):
                steps = (only_on(one, call(1, own(0))), only_on(other, call(1, own(0))))
                program = (work(0, *steps, *say(own(0)), owns=1), work(1, flip))
                self.assertEqual(parted(program, ((), ("copy",)), ((), ("place",))), pair[0])

    def test_the_last_number_rises_first(self):
        # It parts where cell 2 is not 0, and where cell 0 is not 0.
        step = ("if", plus(cell(2), cell(0)), (call(1, own(0)),), ())
        program = (work(0, step, *say(own(0)), owns=1), work(1, put(par(0), 1)))
        self.assertEqual(parted(program, ((), ("copy",)), ((), ("back",))), (0, 0, 1))

    def test_by_what_was_said_alone(self):
        program = (work(0, call(1, own(0)), *say(own(0)), owns=1), work(1, put(par(0), 1)))
        self.assertEqual(parted(program, ((), ("copy",)), ((), ("place",))), (0, 0, 0))

    def test_by_the_order_of_what_was_said(self):
        # By place 1 0 is said where by back it is 0 1.
        steps = (put(par(0), 1), *say(cell(1)), put(cell(1), 0), *say(par(0)))
        program = (work(0, call(1, cell(1))), work(1, *steps))
        self.assertEqual(ran(program, ((), ("place",)), (0, 0, 0))[0], [1, 0])
        self.assertEqual(ran(program, ((), ("back",)), (0, 0, 0))[0], [0, 1])
        self.assertEqual(parted(program, ((), ("place",)), ((), ("back",))), (0, 0, 0))

    def test_by_the_cells_at_the_end_alone(self):
        program = (work(0, call(1, cell(2))), work(1, put(par(0), 0)))
        self.assertEqual(parted(program, ((), ("copy",)), ((), ("back",))), (0, 0, 1))

    def test_what_is_never_called(self):
        program = (work(0), work(3, put(par(0), 1), put(cell(0), 1)))
        for row in itertools.product(WAYS, repeat=3):
            self.assertIsNone(parted(program, ((), ("copy",) * 3), ((), row)))

    def test_a_tuple_of_three_numbers(self):
        told = parted(APART, ((), ("back",)), ((), ("place",)))
        self.assertIs(type(told), tuple)
        for number in told:
            self.assertIs(type(number), int)

    def test_many_programs(self):
        maker = Maker(31)
        told = []
        for _ in range(150):
            program = maker.program()
            one, other = maker.ways(program), maker.ways(program)
            told.append(parted(program, one, other))
            self.assertEqual(told[-1], by_hand(program, one, other), (program, one, other))
            self.assertEqual(parted(program, other, one), told[-1])
        self.assertGreater(len(set(told)), 3)
        self.assertIn(None, told)


class PartedRefused(Refusing):
    def test_the_program(self):
        for program in NO_PROGRAMS:
            for ways in ((), ((),), ((), ("none",))):
                self.refused(BadProgram, parted, program, ways, ways)

    def test_both_ways(self):
        good = ((), ("copy",))
        for bad in ((), ((),), ((), ()), ((), ("none",)), ((), ("copy", "copy")), (("copy",), ())):
            self.refused(BadWays, parted, APART, bad, good)
            self.refused(BadWays, parted, APART, good, bad)
            self.refused(BadWays, parted, APART, bad, bad)

    def test_ways_that_part_at_once_are_looked_at_whole(self):
        self.refused(BadWays, parted, APART, ((), ("back",)), ((), ("place",), ()))


class Classes(unittest.TestCase):
    def test_no_params(self):
        self.assertEqual(classes((work(0, *say(cell(0))),)), [[((),)]])
        self.assertEqual(classes((work(0), work(0), work(0))), [[((), (), ())]])

    def test_one_param(self):
        self.assertEqual(classes(APART), [
            [((), ("back",))],
            [((), ("copy",))],
            [((), ("place",)), ((), ("want",))],
        ])

    def test_one_param_all_alike(self):
        program = (work(0, call(1, num(1))), work(1, *say(par(0))))
        self.assertEqual(classes(program), [[((), (way,)) for way in sorted(WAYS)]])

    def test_one_param_all_unlike(self):
        # By place the cell that was found is said, by want that which is found then.
        steps = (put(cell(0), 1), put(par(0), 2), *say(cell(0), cell(1), par(0)))
        program = (work(0, call(1, ("cell", cell(0))), *say(cell(0), cell(1))), work(1, *steps))
        self.assertEqual(classes(program), [[((), (way,))] for way in sorted(WAYS)])

    def test_the_params_of_a_later_work(self):
        program = (work(0, call(2, cell(0)), *say(cell(0))), work(0), SETS, work(0))
        self.assertEqual(classes(program), [
            [((), (), ("back",), ())],
            [((), (), ("copy",), ())],
            [((), (), ("place",), ()), ((), (), ("want",), ())],
        ])

    def test_alike_on_all_cells_but_the_last(self):
        program = (work(0, only_on((2, 2, 2), call(1, cell(2)))), work(1, put(par(0), 0)))
        groups = [[((), (way,)) for way in ("back", "place", "want")], [((), ("copy",))]]
        self.assertEqual(classes(program), groups)

    def test_two_params(self):
        # Param 0 is set, then param 1 is said; behind the call the cell is said.
        program = (work(0, call(1, own(0), own(0)), *say(own(0)), owns=1), work(2, put(par(0), 1), *say(par(1))))
        told = {
            # Nothing is left of what was set, or it is laid back over.
            "0 0": ("back back", "copy back", "copy copy", "copy place", "copy want", "place back", "want back"),
            # It is set behind what is said, or what is said was taken ahead.
            "0 1": ("back copy", "back place", "back want", "place copy", "want copy"),
            "1 1": ("place place", "place want", "want place", "want want"),
        }
        groups = [[((), tuple(pair.split(" "))) for pair in pairs] for pairs in told.values()]
        self.assertEqual(classes(program), groups)
        self.assertEqual(self.check(program), groups)

    def check(self, program):
        """All that is promised of classes, by all runs."""
        groups = classes(program)
        self.assertIs(type(groups), list)
        for group in groups:
            self.assertIs(type(group), list)
            self.assertEqual(group, sorted(group))
        self.assertEqual(groups, sorted(groups))
        ways = itertools.product(*[list(itertools.product(WAYS, repeat=params)) for params, owns, body in program])
        self.assertEqual(sorted(sum(groups, [])), sorted(ways))
        told = [[[ran(program, ways, cells) for cells in ALL_CELLS] for ways in group] for group in groups]
        for alike in told:
            for one in alike:
                self.assertEqual(one, alike[0])
        for one, other in itertools.combinations(told, 2):
            self.assertNotEqual(one[0], other[0])
        return groups

    def test_by_all_runs(self):
        maker = Maker(32)
        checked = {}
        while min([checked.get(many, 0) for many in range(4)]) < 6:
            program = maker.program()
            many = sum(params for params, owns, body in program)
            if many > 3 or checked.get(many, 0) >= 6:
                continue
            self.check(program)
            checked[many] = checked.get(many, 0) + 1

    def test_three_params_in_one_work_and_in_three(self):
        sets = work(1, put(par(0), 2), *say(cell(0)))
        three = work(3, put(par(0), 2), *say(cell(0), par(1)), put(par(2), 1))
        self.assertGreater(len(self.check((work(0, call(1, cell(0), cell(0), cell(1))), three))), 5)
        handing = work(1, put(par(0), 1), call(2, par(0)), *say(par(0), cell(0)))
        program = (work(0, call(1, cell(0)), call(3, cell(1))), handing, sets, sets)
        self.assertGreater(len(self.check(program)), 5)

    def test_works_are_told_one_behind_another(self):
        program = (work(0), work(1), work(2))
        told = [((), (one,), (two, three)) for one, two, three in itertools.product(sorted(WAYS), repeat=3)]
        self.assertEqual(classes(program), [told])

    def test_what_is_told_may_be_changed(self):
        groups = classes(APART)
        again = classes(APART)
        self.assertIsNot(groups, again)
        groups[0].append(7)
        groups[1][0] = 8
        groups.pop()
        self.assertEqual(classes(APART), again)
        self.assertEqual(len(again), 3)


class ClassesRefused(Refusing):
    def test_no_programs(self):
        for program in NO_PROGRAMS:
            self.refused(BadProgram, classes, program)

    def test_more_than_three_params_in_all(self):
        for params in ((1, 3), (3, 1), (2, 2), (2, 1, 1), (3, 3, 3), (0, 2, 2), (1, 1, 2)):
            program = tuple(work(many) for many in (0,) + params)
            self.refused(BadProgram, classes, program)

    def test_three_params_in_all_are_let(self):
        for params in ((3,), (1, 2), (2, 1), (1, 1, 1), (0, 0, 3), (0, 3)):
            program = tuple(work(many) for many in (0,) + params)
            self.assertEqual(len(classes(program)), 1)
            self.assertEqual(len(classes(program)[0]), 64)


if __name__ == "__main__":
    unittest.main()
