"""Point [4]: what ways are, and the refusal of what are none."""

import itertools
import unittest

from handways.errors import BadCells, BadProgram, BadText, BadWays, HandError
from handways.programs import need_ways

WAYS = ("copy", "place", "back", "want")
NO_PARAMS = ((0, 0, ()),)
TWO_WORKS = ((0, 0, ()), (2, 0, ()))
FOUR_WORKS = ((0, 0, ()), (1, 0, ()), (0, 0, ()), (3, 0, ()))


class Ways(unittest.TestCase):
    def good(self, program, ways):
        self.assertIsNone(need_ways(program, ways))

    def bad(self, program, ways):
        with self.assertRaises(BadWays) as caught:
            need_ways(program, ways)
        self.assertIsInstance(caught.exception, HandError)
        self.assertIsInstance(caught.exception, ValueError)
        for other in (BadProgram, BadCells, BadText):
            self.assertNotIsInstance(caught.exception, other)

    def test_each_way_at_each_param(self):
        for pair in itertools.product(WAYS, repeat=2):
            self.good(TWO_WORKS, ((), pair))
        for four in itertools.product(WAYS, repeat=4):
            self.good(FOUR_WORKS, ((), four[:1], (), four[1:]))

    def test_a_tuple_for_each_work(self):
        self.good(NO_PARAMS, ((),))
        self.bad(NO_PARAMS, ())
        self.bad(NO_PARAMS, ((), ()))
        self.bad(TWO_WORKS, ((),))
        self.bad(TWO_WORKS, (("copy", "copy"),))
        self.bad(TWO_WORKS, ((), ("copy", "copy"), ()))
        self.bad(TWO_WORKS, (("copy", "copy"), ()))

    def test_too_few_and_too_many_texts(self):
        for many in (0, 1, 3, 4, 20):
            self.bad(TWO_WORKS, ((), ("want",) * many))
        self.bad(NO_PARAMS, (("copy",),))
        self.bad(TWO_WORKS, (("copy",), ("copy", "copy")))
        self.bad(FOUR_WORKS, ((), (), (), ("copy",) * 3))
        self.bad(FOUR_WORKS, ((), ("copy",), ("copy",), ("copy",) * 3))
        self.bad(FOUR_WORKS, ((), ("copy",), (), ("copy",) * 2))
        self.bad(FOUR_WORKS, ((), ("copy",) * 2, (), ("copy",) * 2))

    def test_a_text_that_is_no_way(self):
        for text in ("", "Copy", "copy ", " want", "cop", "places", "par", "num", "copyplace"):
            self.bad(TWO_WORKS, ((), (text, "copy")))
            self.bad(TWO_WORKS, ((), ("copy", text)))
            self.bad(FOUR_WORKS, ((), (text,), (), ("copy",) * 3))

    def test_a_text_is_no_tuple_of_texts(self):
        self.bad(TWO_WORKS, ((), "ab"))
        self.bad(TWO_WORKS, ("", ("copy", "copy")))
        self.bad(NO_PARAMS, "a")

    def test_the_program_is_refused_first(self):
        for program in ((), ((0, 0, (("say", ("num", 3)),)),), ((1, 0, ()),)):
            for ways in ((), ((),), (("copy",),), (("none",),)):
                with self.assertRaises(BadProgram):
                    need_ways(program, ways)


if __name__ == "__main__":
    unittest.main()
