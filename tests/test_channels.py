"""Points 40 and 41: the channel, and what bars a cell."""

import random
import unittest

from asking import (
    FAR, NO_DRAUGHTS, WHATEVER, Asking, all_cells, lay, mixed_notices, mixed_sea, numbered, plain_sea, refusals_of_day,
    sea_of_texts,
)

from laidmarks.channels import barred, channel_of
from laidmarks.errors import NoCell, NoDraught
from laidmarks.marks import sea_of, standing

DAY, NIGHT = False, True
ROWS = 5
SEA = plain_sea(4, ROWS)
ALL_ROWS = tuple(range(ROWS))
NO_CELLS = WHATEVER + (
    (4, 0), (0, 5), (-1, 0), (0, -1), (4, 5), (FAR, 0), (0, -FAR), (True, 0), (0, False), ("0", 0), (0, None),
    [0, 0], (0,), (0, 0, 0), ((0, 0),), {0: 0, 1: 0}, "0.0",
)
# What is wrong for a mark of each shape at each row of five.
WRONG = {
    0: {0: (0,), 1: (0, 1), 2: (0, 1, 2), 3: (0, 1, 2, 3), 4: (0, 1, 2, 3, 4)},
    1: {0: (0, 1, 2, 3, 4), 1: (1, 2, 3, 4), 2: (2, 3, 4), 3: (3, 4), 4: (4,)},
    2: {0: (0,), 1: (1,), 2: (2,), 3: (3,), 4: (4,)},
}


def without(rows):
    return tuple(row for row in ALL_ROWS if row not in rows)


class Channel(Asking):
    def leads(self, wanted, notices, day=0, draught=3, night=DAY, sea=SEA, held=99):
        self.tells_in_any_order(wanted, channel_of, sea, notices, held, day, draught, night)

    def test_without_marks_and_banks(self):
        self.leads((ALL_ROWS,) * 4, [])
        self.leads((ALL_ROWS,) * 4, [], night=NIGHT)
        self.leads((tuple(range(9)),) * 16, [], sea=plain_sea(16, 9))
        self.leads(((0,), (0,)), [], sea=plain_sea(2, 1))

    def test_depth_against_draught(self):
        sea = sea_of_texts("01234", "56789")
        for draught in range(1, 10):
            wanted = (tuple(row for row in ALL_ROWS if row >= draught),
                      tuple(row for row in ALL_ROWS if row + 5 >= draught))
            self.leads(wanted, [], draught=draught, sea=sea)

    def test_columns_without_rows(self):
        self.leads(((), (0, 1), ()), [], draught=4, sea=sea_of_texts("33", "44", "00"))
        self.leads(((), ()), [], draught=9, sea=plain_sea(2, 3, 8))

    def test_each_shape_at_each_row(self):
        for shape in range(3):
            for row in ALL_ROWS:
                wanted = (ALL_ROWS, without(WRONG[shape][row]), ALL_ROWS, ALL_ROWS)
                self.leads(wanted, numbered((0, lay(1, (1, row), shape))))

    def test_in_its_own_column_alone(self):
        for column in range(4):
            wanted = tuple(without((2, 3, 4)) if other == column else ALL_ROWS for other in range(4))
            self.leads(wanted, numbered((0, lay(7, (column, 2), 1))))

    def test_several_marks_in_one_column(self):
        self.leads((ALL_ROWS, (2,), ALL_ROWS, ALL_ROWS), numbered((0, lay(1, (1, 1), 0)), (0, lay(2, (1, 3), 1))))
        self.leads((ALL_ROWS, (), ALL_ROWS, ALL_ROWS), numbered((0, lay(1, (1, 3), 0)), (0, lay(2, (1, 1), 1))))
        self.leads((ALL_ROWS, (1, 3), ALL_ROWS, ALL_ROWS),
                   numbered((0, lay(1, (1, 0), 0)), (0, lay(2, (1, 2), 2)), (0, lay(3, (1, 4), 1))))
        self.leads((ALL_ROWS, (3, 4), ALL_ROWS, ALL_ROWS), numbered((0, lay(1, (1, 0), 0)), (0, lay(2, (1, 2), 0))))
        self.leads((ALL_ROWS, (0, 1, 3, 4), ALL_ROWS, ALL_ROWS),
                   numbered((0, lay(1, (1, 2), 2)), (0, lay(2, (1, 2), 2))))

    def test_by_day_and_by_night_lit_and_dark(self):
        notices = numbered((0, lay(1, (1, 1), 0, lit=True)), (0, lay(2, (1, 3), 1, lit=False)),
                           (0, lay(3, (2, 2), 2, lit=False)))
        self.leads((ALL_ROWS, (2,), (0, 1, 3, 4), ALL_ROWS), notices, night=DAY)
        self.leads((ALL_ROWS, (2, 3, 4), ALL_ROWS, ALL_ROWS), notices, night=NIGHT)

    def test_banks_are_banks_by_night_too(self):
        self.leads(((1,), (0,)), [], draught=2, night=NIGHT, sea=sea_of_texts("12", "21"))

    def test_marks_adrift_and_ashore_bar_nothing(self):
        notices = numbered((1, lay(1, (1, 2), 2, sinker=1)), (2, ("gale", 5)), (3, ("seen", 1, (1, 2))),
                           (5, ("lift", 1)))
        barred_column = (ALL_ROWS, (0, 1, 3, 4), ALL_ROWS, ALL_ROWS)
        free = (ALL_ROWS,) * 4
        for day, wanted in ((0, free), (1, barred_column), (2, free), (3, free), (4, free), (5, free), (400, free)):
            self.leads(wanted, notices, day)

    def test_by_the_depths_of_the_day(self):
        notices = numbered((2, ("depth", (0, 1), 2)), (4, ("depth", (0, 1), 3)))
        shoal = ((0, 2, 3, 4), ALL_ROWS, ALL_ROWS, ALL_ROWS)
        free = (ALL_ROWS,) * 4
        for day, wanted in ((0, free), (1, free), (2, shoal), (3, shoal), (4, free), (400, free)):
            self.leads(wanted, notices, day)

    def test_a_mark_counts_on_land_that_came_later(self):
        notices = numbered((0, lay(1, (0, 2), 0)), (1, ("depth", (0, 2), 0)))
        self.leads(((3, 4), ALL_ROWS, ALL_ROWS, ALL_ROWS), notices, 1)

    def test_to_the_held_number(self):
        notices = [(5, 0, lay(1, (0, 2), 2)), (6, 0, ("depth", (1, 0), 2)), (7, 0, ("lift", 1))]
        for held, wanted in ((0, (ALL_ROWS, ALL_ROWS)), (4, (ALL_ROWS, ALL_ROWS)), (5, ((0, 1, 3, 4), ALL_ROWS)),
                             (6, ((0, 1, 3, 4), (1, 2, 3, 4))), (7, (ALL_ROWS, (1, 2, 3, 4))),
                             (99, (ALL_ROWS, (1, 2, 3, 4)))):
            self.leads(wanted, notices, held=held, sea=plain_sea(2, 5))

    def test_refusals(self):
        refusals = refusals_of_day(SEA) + ((4, NoDraught, NO_DRAUGHTS),)
        for night in (DAY, NIGHT):
            self.refuses_each(channel_of, (SEA, numbered((0, lay(1, (0, 0)))), 5, 5, 5, night), refusals)


class Barred(Asking):
    def bars(self, wanted, notices, cell, day=0, draught=3, night=DAY, sea=SEA, held=99):
        self.tells_in_any_order(wanted, barred, sea, notices, held, day, draught, night, cell)

    def test_nothing(self):
        for cell in all_cells(SEA):
            self.bars((False, ()), [], cell)

    def test_a_bank(self):
        sea = sea_of_texts("01234", "56789")
        for draught in range(1, 10):
            for column, row in all_cells(sea):
                self.bars((column * 5 + row < draught, ()), [], (column, row), draught=draught, sea=sea)

    def test_each_shape_at_each_row(self):
        for shape in range(3):
            for mark_row in ALL_ROWS:
                for column, row in all_cells(SEA):
                    wanted = (4,) if column == 1 and row in WRONG[shape][mark_row] else ()
                    self.tells((False, wanted), barred, SEA, numbered((0, lay(4, (1, mark_row), shape))), 99, 0, 3,
                               DAY, (column, row))

    def test_all_marks_rising_and_the_bank(self):
        notices = numbered((0, lay(12, (1, 2), 2)), (0, lay(3, (1, 4), 0)), (0, lay(10, (1, 0), 1)),
                           (0, lay(1, (1, 1), 0)), (0, lay(2, (2, 2), 2)), (1, ("depth", (1, 2), 2)))
        self.bars((False, (3, 10, 12)), notices, (1, 2))
        self.bars((True, (3, 10, 12)), notices, (1, 2), day=1)
        self.bars((False, (1, 3, 10)), notices, (1, 1))
        self.bars((False, (2,)), notices, (2, 2))
        self.bars((False, ()), notices, (0, 2))

    def test_by_night_those_that_are_lit(self):
        notices = numbered((0, lay(1, (1, 2), 2, lit=False)), (0, lay(2, (1, 2), 2, lit=True)),
                           (0, lay(3, (1, 2), 1, lit=False)))
        self.bars((False, (1, 2, 3)), notices, (1, 2), night=DAY)
        self.bars((False, (2,)), notices, (1, 2), night=NIGHT)
        self.bars((True, (2,)), notices, (1, 2), draught=6, night=NIGHT)

    def test_marks_adrift_and_ashore_bar_nothing(self):
        notices = numbered((1, lay(1, (1, 2), 2, sinker=1)), (2, ("gale", 5)), (4, ("lift", 1)))
        for day, marks in ((0, ()), (1, (1,)), (2, ()), (3, ()), (4, ()), (400, ())):
            self.bars((False, marks), notices, (1, 2), day)

    def test_by_the_depths_of_the_day(self):
        notices = numbered((2, ("depth", (0, 1), 2)), (4, ("depth", (0, 1), 3)))
        for day, is_bank in ((0, False), (1, False), (2, True), (3, True), (4, False)):
            self.bars((is_bank, ()), notices, (0, 1), day)

    def test_to_the_held_number(self):
        notices = [(5, 0, lay(1, (0, 2), 2)), (6, 0, ("depth", (0, 2), 0))]
        for held, wanted in ((0, (False, ())), (4, (False, ())), (5, (False, (1,))), (6, (True, (1,)))):
            self.bars(wanted, notices, (0, 2), held=held)

    def test_refusals(self):
        refusals = refusals_of_day(SEA) + ((4, NoDraught, NO_DRAUGHTS), (6, NoCell, NO_CELLS))
        for night in (DAY, NIGHT):
            self.refuses_each(barred, (SEA, numbered((0, lay(1, (0, 0)))), 5, 5, 5, night, (1, 1)), refusals)

    def test_cells_at_each_edge(self):
        sea = plain_sea(16, 9)
        self.bars((True, ()), [], (15, 8), draught=6, sea=sea)
        for cell in ((16, 8), (15, 9), (16, 0), (0, 9)):
            self.refuses(NoCell, barred, sea, [], 0, 0, 6, DAY, cell)


class Mixed(Asking):
    def test_each_cell_is_barred_just_where_the_channel_lacks_it(self):
        chance = random.Random(40)
        for repeat in range(150):
            sea = mixed_sea(chance, 4, 5)
            notices = mixed_notices(chance, sea, marks=12)
            held, day, draught = chance.choice((50, 99)), chance.randint(0, 7), chance.randint(1, 4)
            night = chance.choice((DAY, NIGHT))
            depths = sea_of(sea, notices, held, day)
            places = [place for place in standing(sea, notices, held, day) if place[2][2] or not night]
            channel = [[] for column in sea]
            for column, row in all_cells(sea):
                marks = tuple(
                    mark for mark, (mark_column, mark_row), look in places
                    if mark_column == column and row in WRONG[look[0]][mark_row]
                )
                is_bank = depths[column][row] < draught
                self.tells((is_bank, marks), barred, sea, notices, held, day, draught, night, (column, row))
                if not is_bank and not marks:
                    channel[column].append(row)
            wanted = tuple(tuple(rows) for rows in channel)
            self.tells(wanted, channel_of, sea, notices, held, day, draught, night)


if __name__ == "__main__":
    unittest.main()
