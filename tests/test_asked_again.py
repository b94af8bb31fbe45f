"""Point [1]: nothing is changed or kept, and what is asked again is told again."""

import copy
import unittest

from handways.beside import classes, mixed, parted
from handways.errors import BadCells, BadProgram, BadText, BadWays
from handways.making import placed, wanted
from handways.notes import read, written
from handways.programs import need_program, need_ways
from handways.running import ran
from handways.sets import may_set

PROGRAM = (
    (0, 1, (
        ("set", ("own", 0), ("num", 1)),
        ("call", 1, (("cell", ("own", 0)), ("own", 0))),
        ("say", ("own", 0)),
    )),
    (2, 1, (
        ("say", ("own", 0)),
        ("set", ("par", 0), ("sum", ("par", 0), ("num", 1))),
        ("set", ("own", 0), ("num", 2)),
        ("set", ("par", 1), ("num", 2)),
        ("say", ("par", 0)),
    )),
)
WAYS = ((), ("want", "place"))
CELLS = (0, 1, 1)
TOLD = ([0, 1, 2], (0, 2, 1))
BACK = ((), ("back", "place"))
TEXT = written(PROGRAM)
# Everything that is asked here, with what it is handed.
ASKED = (
    (need_program, {"program": PROGRAM}),
    (need_ways, {"program": PROGRAM, "ways": WAYS}),
    (ran, {"program": PROGRAM, "ways": WAYS, "cells": CELLS}),
    (parted, {"program": PROGRAM, "one": WAYS, "other": BACK}),
    (classes, {"program": PROGRAM}),
    (mixed, {"program": PROGRAM, "ways": WAYS}),
    (may_set, {"program": PROGRAM, "ways": WAYS}),
    (placed, {"program": PROGRAM, "ways": WAYS}),
    (wanted, {"program": PROGRAM, "ways": BACK}),
    (written, {"program": PROGRAM}),
    (read, {"text": TEXT}),
)

class AskedAgain(unittest.TestCase):
    def test_the_same_again(self):
        for _ in range(5):
            self.assertEqual(ran(PROGRAM, WAYS, CELLS), TOLD)

    def test_the_same_again_with_other_things_between(self):
        self.assertEqual(ran(PROGRAM, WAYS, CELLS), TOLD)
        ran(PROGRAM, ((), ("place", "copy")), (2, 2, 2))
        ran(((0, 0, (("say", ("num", 1)),)),), ((),), CELLS)
        for refusal, program, ways, cells in (
            (BadProgram, (), WAYS, CELLS),
            (BadWays, PROGRAM, (), CELLS),
            (BadCells, PROGRAM, WAYS, ()),
        ):
            for _ in range(2):
                with self.assertRaises(refusal):
                    ran(program, ways, cells)
        self.assertEqual(ran(PROGRAM, WAYS, CELLS), TOLD)

    def test_what_is_told_may_be_changed(self):
        said, cells = ran(PROGRAM, WAYS, CELLS)
        said.append(7)
        said[0] = 9
        again = ran(PROGRAM, WAYS, CELLS)
        self.assertEqual(again, TOLD)
        self.assertIsNot(again[0], said)
        self.assertIsNot(ran(((0, 0, ()),), ((),), CELLS)[0], ran(((0, 0, ()),), ((),), CELLS)[0])

    def test_what_is_handed_in_is_not_changed(self):
        before = copy.deepcopy((PROGRAM, WAYS, CELLS))
        need_program(PROGRAM)
        need_ways(PROGRAM, WAYS)
        ran(PROGRAM, WAYS, CELLS)
        self.assertEqual((PROGRAM, WAYS, CELLS), before)

    def test_needs_tell_none(self):
        for _ in range(2):
            self.assertIsNone(need_program(PROGRAM))
            self.assertIsNone(need_ways(PROGRAM, WAYS))

    def test_by_names_of_the_arguments(self):
        self.assertIsNone(need_program(program=PROGRAM))
        self.assertIsNone(need_ways(program=PROGRAM, ways=WAYS))
        self.assertEqual(ran(program=PROGRAM, ways=WAYS, cells=CELLS), TOLD)

    def test_each_is_told_the_same_by_names_and_in_order(self):
        told = [asked(**handed) for asked, handed in ASKED]
        before = copy.deepcopy((told, ASKED))
        for _ in range(2):
            for (asked, handed), answer in zip(ASKED, told):
                with self.subTest(asked=asked.__name__):
                    self.assertEqual(asked(*handed.values()), answer)
                    self.assertEqual(asked(**handed), answer)
        self.assertEqual((told, ASKED), before)

    def test_each_with_refusals_between(self):
        told = [asked(**handed) for asked, handed in ASKED]
        for asked, handed in ASKED:
            wrong = dict(handed)
            name = list(handed)[0]
            wrong[name] = "" if name == "text" else ()
            with self.assertRaises(BadText if name == "text" else BadProgram):
                asked(**wrong)
        self.assertEqual([asked(**handed) for asked, handed in ASKED], told)

    def test_lists_that_are_told_are_new_each_time(self):
        groups = classes(PROGRAM)
        count = len(groups)
        for group in groups:
            group.append(((), ("none", "none")))
        groups.append([])
        again = classes(PROGRAM)
        self.assertEqual(len(again), count)
        self.assertEqual(len(sum(again, [])), 16)

    def test_where_each_is_defined(self):
        places = {
            "programs": (need_program, need_ways), "running": (ran,), "beside": (parted, classes, mixed),
            "sets": (may_set,), "making": (placed, wanted), "notes": (written, read),
            "errors": (BadCells, BadProgram, BadText, BadWays),
        }
        for name, asked in places.items():
            for one in asked:
                self.assertEqual(one.__module__, "handways." + name)

    def test_true_and_false_are_no_numbers(self):
        for truth in (True, False):
            for program in (
                ((0, 0, (("say", ("num", truth)),)),),
                ((0, truth, ()),),
                ((truth, 0, ()),),
                ((0, 2, (("say", ("own", truth)),)),),
            ):
                with self.assertRaises(BadProgram):
                    need_program(program)
            with self.assertRaises(BadCells):
                ran(PROGRAM, WAYS, (0, truth, 0))

    def test_what_is_told_holds_no_truths(self):
        said, cells = ran(PROGRAM, WAYS, CELLS)
        for number in said + list(cells):
            self.assertIs(type(number), int)


if __name__ == "__main__":
    unittest.main()
