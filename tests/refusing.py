"""What each refusal is: a HandError and a ValueError, and none of the others."""

import unittest

from handways.errors import BadCells, BadProgram, BadText, BadWays, HandError

REFUSALS = (BadProgram, BadWays, BadCells, BadText)

NO_PROGRAMS = (
    (),
    ("",),
    ((0, 0),),
    ((0, 0, ("say",)),),
    ((0, 0, (("say",),)),),
    ((0, 0, (("if", ("num", 0), "", ()),)),),
    ((1, 0, ()),),
    ((0, 100, ()),),
    ((0, True, ()),),
    ((0, 0, (("say", ("num", 3)),)),),
    ((0, 0, (("say", ("par", 0)),)),),
    ((0, 0, (("say", ("num", 0)),) * 101),),
    ((0, 0, ()), (0, 0, (("call", 1, ()),))),
    ((0, 0, ()),) * 5,
)


class Refusing(unittest.TestCase):
    def refused(self, refusal, asked, *args):
        """What is asked with these is refused so, each time; it is told with what."""
        for _ in range(2):
            with self.assertRaises(refusal) as caught:
                asked(*args)
            self.assertIsInstance(caught.exception, HandError)
            self.assertIsInstance(caught.exception, ValueError)
            for other in REFUSALS:
                self.assertEqual(isinstance(caught.exception, other), other is refusal)
        return caught.exception
