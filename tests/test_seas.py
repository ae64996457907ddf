"""Points 10 and 11: the sea, its banks, and the drift."""

import unittest

from asking import FAR, WHATEVER, Asking, cells_of_water, drift_by_steps, no_wholes, plain_sea, sea_of_texts

from laidmarks.errors import NoCell, NoDay, NoDraught, NoSea
from laidmarks.seas import drift, is_bank, is_sea

# Three columns of two rows, so that columns and rows can't be taken for one another.
SMALL = sea_of_texts("50", "35", "19")
NO_SEAS = WHATEVER + (
    plain_sea(1, 3), plain_sea(17, 3), plain_sea(3, 0), plain_sea(3, 10),
    sea_of_texts("12", "123"), sea_of_texts("123", "12"), sea_of_texts("12", "12", "1"), sea_of_texts("12", ""),
    ((0, -1), (0, 0)), ((0, 0), (0, 10)), ((10,), (0,)), ((FAR,), (0,)), ((-FAR,), (0,)),
    ((True, 1), (1, 1)), ((1, 1), (1, False)), ((1, 1), (1, None)), ((1, 1), (1, "1")), ((1, 1), (1, (1,))),
    ((1, 1), (1, [1])), ((1, 1), (1, {})),
    [(1, 1), (1, 1)], ([1, 1], [1, 1]), ((1, 1), [1, 1]), ([1, 1], (1, 1)), [[1, 1], [1, 1]],
    ("11", "11"), ((1, 1), "11"), ((1, 1), None), ((1, 1), 1), ((1, 1), {0: 1, 1: 1}), {0: (1, 1), 1: (1, 1)},
)
NO_CELLS = WHATEVER + (
    (-1, 0), (0, -1), (3, 0), (0, 2), (2, 2), (3, 1), (1, 2), (-3, -2), (FAR, 0), (0, -FAR),
    (True, 0), (0, True), (False, 0), (0, False), (None, 0), (0, None), ("0", 0), (0, "0"), ([0], 0), (0, (0,)),
    [0, 0], [1, 1], (0, 0, 0), (0,), ((0, 0),), {0: 0, 1: 0}, "00",
)
DRAUGHTS = tuple(range(1, 10))
DAYS = tuple(range(0, 401))


class IsSea(Asking):
    def test_bounds_of_columns_and_rows(self):
        for columns in (2, 3, 15, 16):
            for rows in (1, 2, 8, 9):
                self.tells(True, is_sea, plain_sea(columns, rows))

    def test_each_depth(self):
        for depth in range(10):
            self.tells(True, is_sea, plain_sea(2, 2, depth))
        self.tells(True, is_sea, sea_of_texts("01234", "56789"))

    def test_no_seas(self):
        for thing in NO_SEAS:
            self.tells(False, is_sea, thing)

    def test_one_wrong_depth_anywhere(self):
        for at in range(6):
            for wrong in (-1, 10, True, False, None, "1"):
                depths = [1] * 6
                depths[at] = wrong
                self.tells(False, is_sea, (tuple(depths[:2]), tuple(depths[2:4]), tuple(depths[4:])))


class IsBank(Asking):
    def test_depth_against_draught(self):
        for depth in range(10):
            sea = sea_of_texts("9" + str(depth), "99")
            for draught in DRAUGHTS:
                self.tells(depth < draught, is_bank, sea, (0, 1), draught)

    def test_equal_less_more_and_land(self):
        sea = sea_of_texts("345", "000")
        self.tells(False, is_bank, sea, (0, 1), 4)
        self.tells(True, is_bank, sea, (0, 0), 4)
        self.tells(False, is_bank, sea, (0, 2), 4)
        self.tells(True, is_bank, sea, (1, 1), 1)

    def test_column_comes_ahead_of_row(self):
        self.tells(True, is_bank, SMALL, (0, 1), 1)
        self.tells(False, is_bank, SMALL, (1, 0), 3)

    def test_cells_at_each_edge(self):
        for cell, depth in (((0, 0), 5), ((0, 1), 0), ((1, 0), 3), ((1, 1), 5), ((2, 0), 1), ((2, 1), 9)):
            self.tells(depth < 4, is_bank, SMALL, cell, 4)
        self.tells(False, is_bank, plain_sea(16, 9), (15, 8), 5)
        self.tells(True, is_bank, plain_sea(16, 9), (15, 0), 6)

    def test_no_sea(self):
        for thing in NO_SEAS:
            self.refuses(NoSea, is_bank, thing, (0, 0), 1)

    def test_no_cell(self):
        for thing in NO_CELLS:
            self.refuses(NoCell, is_bank, SMALL, thing, 1)
        for thing in ((15, 9), (16, 8), (16, 0), (0, 9)):
            self.refuses(NoCell, is_bank, plain_sea(16, 9), thing, 1)

    def test_no_draught(self):
        for thing in no_wholes(DRAUGHTS) + [0, 10, -1, True, False, "1", (1,), [1]]:
            self.refuses(NoDraught, is_bank, SMALL, (0, 0), thing)

    def test_the_one_further_left_is_refused(self):
        for wrong in (None, [], {}, True, "a"):
            self.refuses(NoSea, is_bank, wrong, wrong, wrong)
            self.refuses(NoSea, is_bank, wrong, wrong, 1)
            self.refuses(NoSea, is_bank, wrong, (0, 0), wrong)
            self.refuses(NoCell, is_bank, SMALL, wrong, wrong)
        self.refuses(NoCell, is_bank, SMALL, (3, 0), 10)
        self.refuses(NoSea, is_bank, plain_sea(1, 1), (5, 5), 0)


def mixed_seas():
    """Seas with much land at no plain places; the same ones on each run."""
    state = 7
    for columns, rows in ((2, 1), (2, 9), (3, 3), (4, 5), (5, 2), (6, 6), (16, 1)):
        for repeat in range(3):
            depths = []
            for at in range(columns * rows):
                state = (state * 1103515245 + 12345) & 0x7FFFFFFF
                depths.append(max(0, (state >> 16) % 14 - 4))
            yield tuple(tuple(depths[at * rows:(at + 1) * rows]) for at in range(columns))


class Drift(Asking):
    def test_no_day(self):
        self.tells(((1, 1),), drift, plain_sea(3, 3), (1, 1), 0)

    def test_one_day_by_column_and_row_but_not_aslant(self):
        self.tells(((0, 1), (1, 0), (1, 1), (1, 2), (2, 1)), drift, plain_sea(3, 3), (1, 1), 1)

    def test_two_days(self):
        everywhere = tuple((column, row) for column in range(3) for row in range(3))
        self.tells(everywhere, drift, plain_sea(3, 3), (1, 1), 2)
        self.tells(((0, 0), (0, 1), (0, 2), (1, 0), (1, 1), (2, 0)), drift, plain_sea(3, 3), (0, 0), 2)

    def test_four_hundred_days_over_the_greatest_sea(self):
        everywhere = tuple((column, row) for column in range(16) for row in range(9))
        self.tells(everywhere, drift, plain_sea(16, 9), (7, 3), 400)
        self.tells(everywhere, drift, plain_sea(16, 9), (0, 0), 23)
        self.tells(everywhere[:-1], drift, plain_sea(16, 9), (0, 0), 22)

    def test_every_depth_but_nought_is_water(self):
        sea = sea_of_texts("12345", "00006", "00987")
        self.tells(tuple(cells_of_water(sea)), drift, sea, (0, 0), 8)

    def test_land_in_the_way(self):
        sea = sea_of_texts("111", "000", "111")
        self.tells(((0, 0), (0, 1), (0, 2)), drift, sea, (0, 0), 400)
        self.tells(((2, 0), (2, 1), (2, 2)), drift, sea, (2, 1), 400)

    def test_way_round_land_takes_its_days(self):
        sea = sea_of_texts("111", "101", "101")
        self.tells(((0, 0), (1, 0), (2, 0)), drift, sea, (2, 0), 2)
        self.tells(((0, 0), (0, 1), (0, 2), (1, 0), (1, 2), (2, 0)), drift, sea, (2, 0), 5)
        self.tells(((0, 0), (0, 1), (0, 2), (1, 0), (1, 2), (2, 0), (2, 2)), drift, sea, (2, 0), 6)

    def test_aslant_is_no_step(self):
        self.tells(((0, 0),), drift, sea_of_texts("10", "01"), (0, 0), 400)
        self.tells(((0, 1),), drift, sea_of_texts("01", "10"), (0, 1), 400)

    def test_no_way_round_the_sea_s_edges(self):
        self.tells(((0, 0),), drift, sea_of_texts("1", "0", "1"), (0, 0), 400)
        self.tells(((2, 0),), drift, sea_of_texts("1", "0", "1"), (2, 0), 400)
        self.tells(((0, 0), (1, 0)), drift, sea_of_texts("101", "101"), (0, 0), 400)
        self.tells(((0, 2), (1, 2)), drift, sea_of_texts("101", "101"), (1, 2), 400)

    def test_land_is_alone(self):
        sea = sea_of_texts("111", "101", "111")
        for days in (0, 1, 2, 400):
            self.tells(((1, 1),), drift, sea, (1, 1), days)

    def test_long_way_through_narrow_water(self):
        gaps = ("000000001", "100000000")
        sea = sea_of_texts(*[("111111111" if at % 2 == 0 else gaps[at // 2 % 2]) for at in range(16)])
        water = tuple(cells_of_water(sea))
        self.assertEqual(len(water), 80)
        self.tells(water, drift, sea, (0, 0), 79)
        self.tells(water, drift, sea, (0, 0), 400)
        self.tells(tuple(cell for cell in water if cell != (15, 0)), drift, sea, (0, 0), 78)

    def test_mixed_seas_from_each_cell(self):
        for sea in mixed_seas():
            for column, depths in enumerate(sea):
                for row in range(len(depths)):
                    for days in (0, 1, 2, 3, 5, 9, 400):
                        cell = (column, row)
                        self.tells(drift_by_steps(sea, cell, days), drift, sea, cell, days)

    def test_no_sea(self):
        for thing in NO_SEAS:
            self.refuses(NoSea, drift, thing, (0, 0), 1)

    def test_no_cell(self):
        for thing in NO_CELLS:
            self.refuses(NoCell, drift, SMALL, thing, 1)

    def test_no_days(self):
        for thing in no_wholes(DAYS) + [-1, 401, True, False, "1", (1,), [1]]:
            self.refuses(NoDay, drift, SMALL, (0, 0), thing)
            self.refuses(NoDay, drift, SMALL, (0, 1), thing)

    def test_the_one_further_left_is_refused(self):
        for wrong in (None, [], {}, True, "a"):
            self.refuses(NoSea, drift, wrong, wrong, wrong)
            self.refuses(NoSea, drift, wrong, wrong, 1)
            self.refuses(NoSea, drift, wrong, (0, 0), wrong)
            self.refuses(NoCell, drift, SMALL, wrong, wrong)
        self.refuses(NoCell, drift, SMALL, (3, 0), 401)
        self.refuses(NoSea, drift, plain_sea(17, 1), (99, 0), -1)


if __name__ == "__main__":
    unittest.main()
