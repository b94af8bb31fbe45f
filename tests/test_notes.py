"""Point [13]: a program is written as a text, and read."""

import unittest

from handways.errors import BadProgram, BadText
from handways.notes import read, written
from handways.programs import need_program

from maker import Maker, call, cell, num, own, par, plus, put, say, within, work
from refusing import NO_PROGRAMS, Refusing


class Written(unittest.TestCase):
    def of(self, program, *lines):
        text = "\n".join(lines)
        self.assertEqual(written(program), text)
        self.assertEqual(read(text), program)

    def test_works(self):
        self.of((work(0),), "0 0")
        self.of((work(0, owns=99),), "0 99")
        self.of((work(0, owns=7), work(3, owns=10), work(1), work(2, owns=9)), "0 7", "3 10", "1 0", "2 9")

    def test_things(self):
        for thing, words in (
            (num(0), "0"), (num(1), "1"), (num(2), "2"),
            (cell(0), "cell 0"), (own(0), "own 0"), (own(98), "own 98"), (own(10), "own 10"),
            (par(0), "par 0"), (par(2), "par 2"),
            (plus(num(1), num(2)), "+ 1 2"), (plus(own(1), num(2)), "+ own 1 2"), (plus(num(1), par(2)), "+ 1 par 2"),
            (plus(plus(num(0), num(1)), num(2)), "+ + 0 1 2"), (plus(num(0), plus(num(1), num(2))), "+ 0 + 1 2"),
            (("cell", plus(cell(1), own(3))), "cell + cell 1 own 3"),
            (("cell", ("cell", ("cell", cell(2)))), "cell cell cell cell 2"),
        ):
            with self.subTest(words=words):
                self.of((work(0), work(3, *say(thing), owns=99)), "0 0", "3 99 say " + words)

    def test_steps(self):
        self.of((work(0, put(cell(0), 1)),), "0 0 set cell 0 1")
        self.of((work(0, ("set", own(3), own(4)), owns=5),), "0 5 set own 3 own 4")
        self.of((work(0, *say(num(1), cell(2))),), "0 0 say 1 say cell 2")
        self.of((work(0, ("if", num(0), (), ())),), "0 0 if 0 ( ) ( )")
        self.of((work(0, ("if", cell(0), say(num(1)), ())),), "0 0 if cell 0 ( say 1 ) ( )")
        self.of((work(0, ("if", cell(0), (), say(num(1), num(2)))),), "0 0 if cell 0 ( ) ( say 1 say 2 )")
        inner = ("if", num(1), say(num(0)), ())
        self.of((work(0, ("if", num(2), (inner,), (inner, inner)), *say(num(2))),),
                "0 0 if 2 ( if 1 ( say 0 ) ( ) ) ( if 1 ( say 0 ) ( ) if 1 ( say 0 ) ( ) ) say 2")

    def test_calls(self):
        self.of((work(0, call(1), call(2, num(1)), call(3, cell(0), plus(num(1), own(0)), num(2)), owns=1),
                 work(0), work(1), work(3, owns=0)),
                "0 1 call 1 . call 2 1 . call 3 cell 0 + 1 own 0 2 .", "0 0", "1 0", "3 0")
        self.of((work(0, ("if", num(1), (call(1),), (call(1),))), work(0)), "0 0 if 1 ( call 1 . ) ( call 1 . )", "0 0")

    def test_no_blank_and_no_line_end_behind(self):
        for program in ((work(0),), (work(0), work(0)), (work(0, call(1)), work(0, ("if", num(0), (), ())))):
            text = written(program)
            self.assertEqual(text, text.strip())
            self.assertNotIn("  ", text)
            self.assertEqual(text.count("\n"), len(program) - 1)

    def test_it_is_a_text(self):
        self.assertIs(type(written((work(0),))), str)

    def test_at_the_limits(self):
        step = within(("say", ("cell", ("cell", ("cell", cell(2))))), 4)
        program = (work(0, *[step] * 20, owns=99), work(3, *[put(par(2), 2)] * 100, owns=99))
        self.assertEqual(read(written(program)), program)
        thing = num(2)
        for _ in range(4):
            thing = plus(thing, thing)
        program = (work(0, *say(thing, thing)),)
        self.assertEqual(read(written(program)), program)

    def test_lines_that_are_longer_than_may_be_handed_in(self):
        # Nothing is promised of reading these; but they are written.
        thing = num(2)
        for _ in range(4):
            thing = plus(thing, thing)
        text = written((work(0, *say(thing) * 100),))
        self.assertEqual(text.split(" say "), ["0 0"] + ["+ + + + 2 2 + 2 2 + + 2 2 + 2 2 + + + 2 2 + 2 2 + + 2 2 + 2 2"] * 100)

    def test_many_programs(self):
        maker = Maker(71)
        for _ in range(1000):
            program = maker.program()
            text = written(program)
            self.assertEqual(read(text), program)
            self.assertEqual(written(read(text)), text)

    def test_what_is_no_program(self):
        for program in NO_PROGRAMS:
            with self.assertRaises(BadProgram):
                written(program)


CANT_BE = (
    # Words too few, too many, or none.
    "", " ", "  ", "0", "0 ", " 0", "0 0 ", " 0 0", "0  0", "0 0  say 1", "0 0 say 1 ", "0 0 say  1",
    "0 0 say", "0 0 set", "0 0 set cell 0", "0 0 set cell", "0 0 if", "0 0 if 0", "0 0 if 0 ( )", "0 0 if 0 ( ) (",
    "0 0 if 0 ( ( )", "0 0 if 0 ) ( )", "0 0 if 0 () ( )", "0 0 if 0 (  ) ( )", "0 0 if ( ) ( )", "0 0 if 0 ( ) ( ) ( )",
    "0 0 if 0 ( 1 ) ( )", "0 0 if 0 ( say ) ( )", "0 0 if 0 ( ) ( ) )", "0 0 if 0 ( . ) ( )", "0 0 if 0 1 ( ) ( )",
    "0 0 if 0 ( say 1 ( ) ) ( )", "0 0 if 0 ( ) say 1 ( )", "0 0 if say 1 ( ) ( )",
    "0 0 call", "0 0 call 1", "0 0 call .", "0 0 call 1 0", "0 0 call 1 . .", "0 0 call 1 say 1 .", "0 0 call own 1 .",
    "0 0 call + 1 1 .", "0 0 call 1 ( ) .", "0 0 call 1 )", "0 0 call 1 + 0 .", "0 0 call 1 0 . 0", "0 0 call 1. ",
    "0 0 say 1 2", "0 0 say 1 own 0", "0 0 set cell 0 1 2", "0 0 say + 1", "0 0 say + 1 2 0", "0 0 say cell",
    "0 0 say own", "0 0 say par", "0 0 say own own 0", "0 0 say own + 0 0", "0 0 say par cell 0", "0 0 say own cell 0",
    "0 0 say say 1", "0 0 say set 1 1", "0 0 say ( )", "0 0 say .", "0 0 say )", "0 0 (", "0 0 )", "0 0 .", "0 0 ( )",
    "0 0 0", "0 0 1", "0 0 cell 0", "0 0 own 0", "0 0 + 1 1", "0 say 1", "say 1", "say 1 0 0", "0 say 1 0",
    "own 0 0", "0 own 0", "cell 0 0", "+ 0 0 0", "0 cell 0", "( ) 0", ". 0 0", "0 .",
    # Words that are none.
    "a b", "0 0 Say 1", "0 0 SAY 1", "0 0 says 1", "0 0 num 1", "0 0 say num 1", "0 0 say sum 1 1", "0 0 say ++ 1 1",
    "0 0 say (1)", "0 0 say +1", "0 0 say -1", "0 0 say - 1 1", "0 0 say 1.", "0 0 say 1,", "0 0 say one", "0 0 say1",
    "0 0 thing 1", "0 0 step", "0 0 body", "0 0 say thing", "0 0 say number", "0 0 if 0 body body", "0 0 call 1 things .",
    "0 0 say own0", "0 0 say $", "0 0 say ~", "-0 0", "0 -1", "+0 0", "0 +1",
    # Numbers with a needless 0, or of three figures and more.
    "00 0", "0 00", "01 0", "0 01", "0 09", "0 000", "000 0", "100 0", "0 100", "0 999", "0 0000", "0 12345678901234567890",
    "0 0 say 00", "0 0 say 01", "0 0 say 100", "0 0 say own 00", "0 0 say own 01", "0 0 say own 100", "0 0 say par 02",
    "0 0 say cell 00", "0 0 say + 01 1", "0 0 say + 1 01", "0 0 call 01 .", "0 0 call 001 .", "0 0 call 100 .",
    "0 0 call 1 00 .", "0 0 set own 00 1", "0 0 set own 0 02", "0 0 if 00 ( ) ( )", "1e1 0", "1_0 0", "0x1 0",
)

NO_PROGRAM_BUT_SO = (
    # Heads, and how many works.
    "1 0", "4 0", "99 0", "0 0\n4 0", "0 0\n10 0", "0 0\n0 0\n0 0\n0 0\n0 0", "0 0\n" * 29 + "0 0",
    # Numbers.
    "0 0 say 3", "0 0 say 9", "0 0 say 10", "0 0 say 99", "0 0 set cell 3 0", "0 0 if 57 ( ) ( )",
    # Places.
    "0 0 set 0 1", "0 0 set 10 99", "0 0 set + 1 1 1", "0 0 set own 0 1", "0 0 say own 0", "0 5 say own 5", "0 99 say own 99",
    "0 0 say par 0", "0 0\n2 0 say par 2", "0 0\n2 0 set par 99 0",
    # Calls.
    "0 0 call 0 .", "0 0 call 1 .", "0 0 call 99 .", "0 0 call 1 .\n1 0", "0 0 call 1 1 .\n0 0", "0 0 call 1 0 1 .\n1 0",
    "0 0\n0 0 call 1 .", "0 0\n0 0 call 0 .", "0 0 call 1 " + "0 " * 100 + ".\n3 0",
    # What is too deep or too much.
    "0 0 say cell cell cell cell cell 0", "0 0 say + + + + + 0 0 0 0 0 0",
    "0 0 " + "if 0 ( " * 5 + "say 0 " + ") ( ) " * 4 + ") ( )", "0 0" + " say 0" * 101, "0 0" + " call 1 ." * 101 + "\n0 0",
)


class Read(Refusing):
    def bad(self, row, text):
        with self.subTest(text=text):
            error = self.refused(BadText, read, text)
            self.assertEqual(error.row, row)
            self.assertIs(type(error.row), int)

    def test_lines_that_cant_be_so(self):
        for line in CANT_BE:
            self.bad(0, line)

    def test_the_empty_text_is_one_row(self):
        self.bad(0, "")

    def test_the_row_of_the_first_one(self):
        for line in CANT_BE:
            self.bad(1, "0 0\n" + line)
            self.bad(2, "0 0\n3 99 set par 0 1\n" + line)
            self.bad(0, line + "\n0 0")
            self.bad(1, "0 0\n" + line + "\n" + line + "\n0 0")

    def test_a_line_end_at_an_end(self):
        self.bad(1, "0 0\n")
        self.bad(2, "0 0\n0 0\n")
        self.bad(0, "\n0 0")
        self.bad(0, "\n")
        self.bad(1, "0 0\n\n0 0")
        self.bad(1, "0 0\n \n0 0")

    def test_a_line_behind_what_is_no_program(self):
        # Each line is looked at ahead of what they tell.
        for text in NO_PROGRAM_BUT_SO:
            for line in ("", "0 0 say", "00 0"):
                self.bad(text.count("\n") + 1, text + "\n" + line)
                self.bad(0, line + "\n" + text)

    def test_rows_beyond_the_works(self):
        self.bad(40, "0 0\n" * 40 + "0 0 say")

    def test_all_lines_are_so_but_tell_no_program(self):
        for text in NO_PROGRAM_BUT_SO:
            with self.subTest(text=text):
                self.refused(BadProgram, read, text)

    def test_as_deep_as_a_line_may_be(self):
        # No line of 1200 signs is too deep to be read, or to be refused.
        for line in ("0 0 say " + "cell " * 238 + "0", "0 0 say" + " +" * 297 + " 0" * 298,
                     "0 0 say" + " + 0" * 297 + " 0",
                     "0 0" + " if 0 (" * 85 + " ) ( )" * 85, "0 0" + " if 0 ( ) (" * 90 + " )" * 90):
            self.assertLessEqual(len(line), 1200)
            self.refused(BadProgram, read, line)
            self.refused(BadProgram, read, "0 0\n" + line)
        for line in ("0 0 say" + " +" * 596, "0 0 say" + " cell" * 238, "0 0" + " if 0 (" * 171, "0 0" + " (" * 598,
                     "0 0" + " )" * 598, "0 0" + " ." * 598, "0 0" + " call" * 239, "0 0" + " 0" * 598, " " * 1200,
                     "0 0 say" + " own" * 298, "9" * 1200, "0 0 say" + " +" * 298 + " 0" * 298):
            self.assertLessEqual(len(line), 1200)
            self.bad(0, line)
            self.bad(1, "0 0\n" + line)

    def test_what_is_told_is_made_of_tuples_and_numbers(self):
        program = read("0 2 if 1 ( say own 1 ) ( call 1 2 + 0 1 . )\n2 0 set par 1 par 0")
        self.assertEqual(program, (
            (0, 2, (("if", num(1), (("say", own(1)),), (("call", 1, (num(2), plus(num(0), num(1)))),)),)),
            (2, 0, (("set", par(1), par(0)),)),
        ))
        self.assertIsNone(need_program(program))

    def test_the_same_again(self):
        for _ in range(2):
            self.assertEqual(read("0 1 say own 0"), ((0, 1, (("say", own(0)),)),))
            self.bad(1, "0 0\n0 0 say")

    def test_signs_of_which_nothing_is_promised(self):
        for sign in ("\t", "\r", "\u00b2", "\u0663"):
            for line in ("0 0 say " + sign, "0" + sign + "0", sign):
                self.bad(0, line)


class ByFront(unittest.TestCase):
    """Lines are looked at here from the front, by a word at a time."""

    def thing(self, words):
        word = words.pop(0)
        if word == "+":
            self.thing(words)
            self.thing(words)
        elif word == "cell":
            self.thing(words)
        elif word in ("own", "par"):
            self.number(words)
        else:
            self.number([word])

    def number(self, words):
        if words.pop(0) not in [str(number) for number in range(100)]:
            raise IndexError

    def steps(self, words, ends):
        while words and words[0] not in ends:
            word = words.pop(0)
            if word in ("set", "say", "if"):
                self.thing(words)
            if word == "set":
                self.thing(words)
            elif word == "if":
                self.body(words)
                self.body(words)
            elif word == "call":
                self.number(words)
                while words[0] != ".":
                    self.thing(words)
                words.pop(0)
            elif word != "say":
                raise IndexError

    def body(self, words):
        if words.pop(0) != "(":
            raise IndexError
        self.steps(words, (")",))
        if words.pop(0) != ")":
            raise IndexError

    def can_be(self, line):
        words = line.split(" ")
        try:
            self.number(words)
            self.number(words)
            self.steps(words, ())
        except IndexError:
            return False
        return not words

    def told(self, text):
        try:
            return need_program(read(text))
        except BadText as error:
            return error.row
        except BadProgram:
            return None

    def test_many_texts(self):
        maker = Maker(72)
        chance = maker.chance
        words = "0 1 2 3 10 99 00 100 + cell own par set say if call ( ) .".split(" ") + [""]
        rows = {}
        for _ in range(6000):
            lines = [line.split(" ") for line in written(maker.program()).split("\n")]
            for _ in range(chance.randrange(1, 4)):
                line = chance.choice(lines)
                at = chance.randrange(min(len(line), 12))
                line[at:at + chance.randrange(2)] = [chance.choice(words)] * chance.randrange(2)
            lines = [" ".join(line) for line in lines]
            wrong = [row for row, line in enumerate(lines) if not self.can_be(line)]
            row = self.told("\n".join(lines))
            self.assertEqual(row, wrong[0] if wrong else None, lines)
            rows[row] = rows.get(row, 0) + 1
        for row in (None, 0, 1, 2, 3):
            self.assertGreater(rows[row], 50)


if __name__ == "__main__":
    unittest.main()
