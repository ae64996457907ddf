"""What the tests share: how the program is asked, and things of whatever kind to ask it with."""

import copy
import unittest

FAR = 10 ** 20 - 1

WHATEVER = (
    0, 1, 5, -1, 400, FAR, -FAR, True, False, None,
    "", "a", "sea", "lay", "0.0", "a\tb\nc ~", "x" * 1000,
    [], [0], [None], [[]], [()], [{}], [True], ["lay"], [[[[[1]]]]], list(range(2000)),
    (), (0,), (None,), ((),), ((), ()), ([], []), ("a", "b"), (None, None), ({}, {}), ((((((1,),),),),),),
    {}, {0: 0}, {"a": 1}, {0: (1, 2), 1: (3, 4)}, {"a": [{"b": (None, True)}]},
)


def sea_of_texts(*columns):
    """A sea out of texts, one for each column, one figure for each depth."""
    return tuple(tuple(int(figure) for figure in column) for column in columns)


def plain_sea(columns, rows, depth=5):
    return ((depth,) * rows,) * columns


class Asking(unittest.TestCase):
    """Each call is made twice and must leave what it was handed as it was.

    What is compared is written out by repr, as True == 1 to Python.
    """

    def answer_of(self, call, things):
        try:
            return "told", call(*things)
        except ValueError as error:
            return "refused", error

    def asked_twice(self, call, things):
        handed = copy.deepcopy(things)
        how, answer = self.answer_of(call, handed)
        self.assertEqual(repr(handed), repr(things), "what was handed in is another now")
        how_again, again = self.answer_of(call, handed)
        self.assertEqual(repr(handed), repr(things), "what was handed in is another now")
        self.assertEqual((how, repr(answer)), (how_again, repr(again)), "asked again, something else is told")
        return how, answer

    def tells(self, wanted, call, *things):
        how, answer = self.asked_twice(call, things)
        self.assertEqual((how, repr(answer)), ("told", repr(wanted)), things)

    def refuses(self, error, call, *things):
        how, answer = self.asked_twice(call, things)
        self.assertEqual((how, type(answer)), ("refused", error), things)
