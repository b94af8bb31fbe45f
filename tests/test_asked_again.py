"""Point [1]: nothing is changed or kept, and what is asked again is told again."""

import copy
import unittest

from handways.errors import BadCells, BadProgram, BadWays
from handways.programs import need_program, need_ways
from handways.running import ran

PROGRAM = (
    (0, 1, (
        ("set", ("own", 0), ("num", 1)),
        ("call", 1, (("cell", ("own", 0)), ("own", 0))),
        ("say", ("own", 0)),
    )),
    (2, 1, (
        ("say", ("own", 0)),
        ("set", ("par", 0), ("sum", ("par", 0), ("num", 1))),
        ("set", ("own", 0), ("num", 2)),
        ("set", ("par", 1), ("num", 2)),
        ("say", ("par", 0)),
    )),
)
WAYS = ((), ("want", "place"))
CELLS = (0, 1, 1)
TOLD = ([0, 1, 2], (0, 2, 1))


class AskedAgain(unittest.TestCase):
    def test_the_same_again(self):
        for _ in range(5):
            self.assertEqual(ran(PROGRAM, WAYS, CELLS), TOLD)

    def test_the_same_again_with_other_things_between(self):
        self.assertEqual(ran(PROGRAM, WAYS, CELLS), TOLD)
        ran(PROGRAM, ((), ("place", "copy")), (2, 2, 2))
        ran(((0, 0, (("say", ("num", 1)),)),), ((),), CELLS)
        for refusal, program, ways, cells in (
            (BadProgram, (), WAYS, CELLS),
            (BadWays, PROGRAM, (), CELLS),
            (BadCells, PROGRAM, WAYS, ()),
        ):
            for _ in range(2):
                with self.assertRaises(refusal):
                    ran(program, ways, cells)
        self.assertEqual(ran(PROGRAM, WAYS, CELLS), TOLD)

    def test_what_is_told_may_be_changed(self):
        said, cells = ran(PROGRAM, WAYS, CELLS)
        said.append(7)
        said[0] = 9
        again = ran(PROGRAM, WAYS, CELLS)
        self.assertEqual(again, TOLD)
        self.assertIsNot(again[0], said)
        self.assertIsNot(ran(((0, 0, ()),), ((),), CELLS)[0], ran(((0, 0, ()),), ((),), CELLS)[0])

    def test_what_is_handed_in_is_not_changed(self):
        before = copy.deepcopy((PROGRAM, WAYS, CELLS))
        need_program(PROGRAM)
        need_ways(PROGRAM, WAYS)
        ran(PROGRAM, WAYS, CELLS)
        self.assertEqual((PROGRAM, WAYS, CELLS), before)

    def test_needs_tell_none(self):
        for _ in range(2):
            self.assertIsNone(need_program(PROGRAM))
            self.assertIsNone(need_ways(PROGRAM, WAYS))

    def test_by_names_of_the_arguments(self):
        self.assertIsNone(need_program(program=PROGRAM))
        self.assertIsNone(need_ways(program=PROGRAM, ways=WAYS))
        self.assertEqual(ran(program=PROGRAM, ways=WAYS, cells=CELLS), TOLD)

    def test_true_and_false_are_no_numbers(self):
        for truth in (True, False):
            for program in (
                ((0, 0, (("say", ("num", truth)),)),),
                ((0, truth, ()),),
                ((truth, 0, ()),),
                ((0, 2, (("say", ("own", truth)),)),),
            ):
                with self.assertRaises(BadProgram):
                    need_program(program)
            with self.assertRaises(BadCells):
                ran(PROGRAM, WAYS, (0, truth, 0))

    def test_what_is_told_holds_no_truths(self):
        said, cells = ran(PROGRAM, WAYS, CELLS)
        for number in said + list(cells):
            self.assertIs(type(number), int)


if __name__ == "__main__":
    unittest.main()
