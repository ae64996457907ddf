"""What the tests share: how the program is asked, and what it is asked with."""

import copy
import itertools
import unittest

from laidmarks.errors import NoDay, NoNotices, NoNumber, NoSea

FAR = 10 ** 20 - 1

WHATEVER = (
    0, 1, 5, -1, 400, FAR, -FAR, True, False, None,
    "", "a", "sea", "lay", "0.0", "a\tb\nc ~", "x" * 1000,
    [], [0], [None], [[]], [()], [{}], [True], ["lay"], [[[[[1]]]]], list(range(2000)),
    (), (0,), (None,), ((),), ((), ()), ([], []), ("a", "b"), (None, None), ({}, {}), ((((((1,),),),),),),
    {}, {0: 0}, {"a": 1}, {0: (1, 2), 1: (3, 4)}, {"a": [{"b": (None, True)}]},
)


def sea_of_texts(*columns):
    """A sea out of texts, one for each column, one figure for each depth."""
    return tuple(tuple(int(figure) for figure in column) for column in columns)


def plain_sea(columns, rows, depth=5):
    return ((depth,) * rows,) * columns


def no_wholes(good):
    """Of things of whatever kind those that are not among these whole numbers."""
    return [thing for thing in WHATEVER if type(thing) is not int or thing not in good]


NO_DRAUGHTS = no_wholes(range(1, 10)) + [0, 10, -1, True, False, "1", (1,), [1], {1: 1}]


def cells_of_water(sea):
    return [(column, row) for column, depths in enumerate(sea) for row, depth in enumerate(depths) if depth]


def steps_between(sea, start):
    """How many steps each cell of water is off, by rounds over all cells: another way than the program's."""
    off = {start: 0}
    changed = True
    while changed:
        changed = False
        for here in cells_of_water(sea):
            for there in list(off):
                beside = abs(here[0] - there[0]) + abs(here[1] - there[1]) == 1
                if beside and off[there] + 1 < off.get(here, FAR):
                    off[here] = off[there] + 1
                    changed = True
    return off


def drift_by_steps(sea, start, days):
    if sea[start[0]][start[1]] == 0:
        return (start,)
    off = steps_between(sea, start)
    return tuple(sorted(cell for cell in off if off[cell] <= days))


def lay(mark, cell, shape=0, colour=0, sinker=5, lit=True):
    return ("lay", mark, cell, shape, colour, sinker, lit)


def numbered(*days_and_deeds):
    """Notices with the numbers from 1 on."""
    return [(number, day, deed) for number, (day, deed) in enumerate(days_and_deeds, start=1)]


def orders_of(notices):
    """The notices in some orders, and with some of them told again."""
    yield notices[::-1]
    yield notices[1::2] + notices[::2]
    yield sorted(notices, key=repr)
    yield (notices + notices[::-1])[:30]
    yield (notices * 30)[:30]


def mixed_sea(chance, most_columns=4, most_rows=4):
    """A sea with much land; chance is a random.Random with a seed, so the same on each run."""
    rows = chance.randint(1, most_rows)
    depths = (0, 0, 1, 2, 3, 5, 9)
    return tuple(
        tuple(chance.choice(depths) for row in range(rows)) for column in range(chance.randint(2, most_columns))
    )


def mixed_deed(chance, sea, marks):
    cell = (chance.randrange(len(sea)), chance.randrange(len(sea[0])))
    mark = chance.randint(1, marks)
    word = chance.choice(("lay", "lay", "lay", "lift", "gale", "gale", "seen", "seen", "seen", "depth"))
    if word == "lay":
        return lay(mark, cell, chance.randint(0, 2), chance.randint(0, 1), chance.randint(1, 4), chance.random() < 0.6)
    if word == "gale":
        return (word, chance.randint(1, 5))
    if word == "depth":
        return (word, cell, chance.choice((0, 0, 1, 2, 4)))
    return (word, mark) if word == "lift" else (word, mark, cell)


def mixed_notices(chance, sea, marks=3, last_day=6):
    """Notices of few marks on few days, so that much comes together."""
    numbers = chance.sample(range(1, 100), chance.randint(1, 30))
    return [(number, chance.randint(0, last_day), mixed_deed(chance, sea, marks)) for number in numbers]


def refusals_of_day(sea):
    """What is refused of a sea, notices, a held number and a day, in this order; of the sea with these columns."""
    beyond = (len(sea), 0)
    gale = (1, 0, ("gale", 1))
    no_seas = WHATEVER + (plain_sea(1, 2), plain_sea(17, 2), plain_sea(2, 10), list(sea), ((True,), (1,)))
    no_notices = [thing for thing in WHATEVER if thing != []] + [
        (gale,), gale, {1: gale}, [gale] * 31, [gale, (1, 0, ("gale", 2))], [gale, (1, 1, ("gale", 1))],
        [(2, 0, lay(1, beyond))], [(2, 0, ("seen", 1, beyond))], [(2, 0, ("depth", beyond, 1))], [gale, list(gale)],
        [(100, 0, ("gale", 1))], [(1, 401, ("gale", 1))], [(1, 0, ("gale", 10))], [(1, 0, ("lift", 13))],
    ]
    no_held = no_wholes(range(100)) + [-1, 100, True, False, "5", (5,), [5], {5: 5}]
    no_days = no_wholes(range(401)) + [-1, 401, True, False, "5", (5,), [5], {5: 5}]
    return ((0, NoSea, no_seas), (1, NoNotices, no_notices), (2, NoNumber, no_held), (3, NoDay, no_days))


def all_cells(sea):
    return [(column, row) for column in range(len(sea)) for row in range(len(sea[0]))]


class Asking(unittest.TestCase):
    """Each call is made twice and must leave what it was handed as it was.

    A list that was told the first time is emptied ahead of the second. What is compared is written out by repr, as
    True == 1 to Python.
    """

    def answer_of(self, call, things):
        try:
            return "told", call(*things)
        except ValueError as error:
            return "refused", error

    def asked_twice(self, call, things):
        handed = copy.deepcopy(things)
        how, answer = self.answer_of(call, handed)
        self.assertEqual(repr(handed), repr(things), "what was handed in is another now")
        first = repr(answer)
        if isinstance(answer, list):
            answer.clear()
        how_again, again = self.answer_of(call, handed)
        self.assertEqual(repr(handed), repr(things), "what was handed in is another now")
        self.assertEqual((how, first), (how_again, repr(again)), "asked again, something else is told")
        return how, again

    def tells(self, wanted, call, *things):
        how, answer = self.asked_twice(call, things)
        self.assertEqual((how, repr(answer)), ("told", repr(wanted)), things)

    def refuses(self, error, call, *things):
        how, answer = self.asked_twice(call, things)
        self.assertEqual((how, type(answer)), ("refused", error), things)

    def refuses_with(self, error, fields, call, *things):
        """Refused with this class, and with these fields: a dict of their names."""
        self.refuses(error, call, *things)
        how, answer = self.asked_twice(call, things)
        self.assertEqual(repr({name: getattr(answer, name) for name in fields}), repr(fields), things)

    def tells_in_any_order(self, wanted, call, sea, notices, *rest):
        """The same is told in whatever order the notices are, and where they are told again."""
        self.tells(wanted, call, sea, notices, *rest)
        for others in orders_of(notices):
            self.tells(wanted, call, sea, others, *rest)

    def refuses_each(self, call, good, refusals):
        """Of good things each is refused that is made wrong, and of several that furthest to the left.

        refusals are tuples (place, error, wrong things), rising.
        """
        self.assertEqual(self.answer_of(call, good)[0], "told")
        for place, error, wrongs in refusals:
            for wrong in wrongs:
                self.refuses(error, call, *good[:place], wrong, *good[place + 1:])
        for many in range(2, len(refusals) + 1):
            for several in itertools.combinations(refusals, many):
                for pick in (0, -1):
                    things = list(good)
                    for place, error, wrongs in several:
                        things[place] = wrongs[pick]
                    self.refuses(several[0][1], call, *things)
