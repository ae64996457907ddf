"""Points 70, 71 and 72: a fairway, the marks that keep a ship to it, and papers that fewer don't."""

import itertools
import random
import unittest

from asking import FAR, NO_DRAUGHTS, WHATEVER, Asking, plain_sea, sea_of_texts

from laidmarks.errors import NoColumns, NoDraught, NoFairway, NoSea, NoSide
from laidmarks.fairways import is_paper, keeps, least_columns, paper_of

UPPER, LOWER = "upper", "lower"
SIDES = (UPPER, LOWER)
WIDE = plain_sea(6, 9)
MIDDLE = (4,) * 6
NO_SEAS = WHATEVER + (plain_sea(1, 9), plain_sea(17, 9), plain_sea(6, 10), list(WIDE), ((True,), (1,)))
NO_FAIRWAYS = WHATEVER + (
    (4,) * 5, (4,) * 7, list(MIDDLE), (4, 4, 4, 4, 4, 6), (2, 4, 4, 4, 4, 4), (4, 4, 5, 3, 4, 4), (9, 8, 8, 8, 8, 8),
    (8, 8, 8, 8, 8, 9), (0, 0, -1, 0, 0, 0), (-1,) * 6, (True,) * 6, (1, 1, 1, 1, 1, True), (4, 4, 4, 4, 4, None),
    ("4",) * 6, "444444", {column: 4 for column in range(6)}, ((4,),) * 6, ([4],) * 6, ({},) * 6, (FAR,) * 6,
    (4, 4, 4, 4, 4, "4"), (MIDDLE,),
)
NO_SIDES = WHATEVER + (
    "Upper", "LOWER", "upper ", " lower", "up", "upper\n", "upperlower", ("upper",), ["lower"], {"upper": "lower"},
)
NO_COLUMNS = tuple(thing for thing in WHATEVER if thing != ()) + (
    (0, 1), (6,), (1, 6), (1, 1), (2, 1), (1, 3, 2), (1, 2, 2), (-1,), (-1, 1), (True,), (1, True), (1, "2"), ("1",),
    (1, None), (1, (2,)), ((1,),), [1], [1, 2], {1: True}, "1", 1, (FAR,), (1, 2, 3, 4, 5, 6), (0, 1, 2, 3, 4, 5),
)


def fair_water(sea, draught, row, column):
    """All rows of the column's fair water, by looking at each row whether all between are no banks."""
    depths = sea[column]
    return {
        other for other in range(len(depths))
        if all(depths[between] >= draught for between in range(min(row, other), max(row, other) + 1))
    }


def is_out(side, row, rows):
    """Whether a row lies beyond all of these on a side."""
    return row < min(rows) if side == UPPER else row > max(rows)


def ships(fairway, side, columns):
    """For each column all rows at which a ship can be that has obeyed the marks up to there."""
    told = [{fairway[0]}]
    for column in range(1, len(fairway)):
        rows = {row + step for row in told[-1] for step in (-1, 0, 1)}
        if column in columns:
            rows = {row for row in rows if not is_out(side, row, [fairway[column]])}
        told.append(rows)
    return told


def wrong_columns(sea, draught, fairway, side, columns):
    """The columns in which some ship is wrong."""
    return [
        column for column, rows in enumerate(ships(fairway, side, columns))
        if any(is_out(side, row, fair_water(sea, draught, fairway[column], column)) for row in rows)
    ]


def all_columns(sea):
    """All rising tuples of columns from 1 on, those with fewer columns first."""
    rest = range(1, len(sea))
    return [columns for many in range(len(sea)) for columns in itertools.combinations(rest, many)]


def stretches_slowly(sea, draught, fairway, side):
    """All stretches: by ships that set out from the column ahead of the first one."""
    told = []
    for end in range(1, len(sea)):
        starts = []
        for start in range(1, end + 1):
            rows = ships(fairway[start - 1:end + 1], side, ())[-1]
            water = fair_water(sea, draught, fairway[end], end)
            if any(is_out(side, row, water) for row in rows):
                starts.append(start)
        if starts:
            told.append((max(starts), end))
    return told


def mixed_fairway(chance, sea, draught):
    """Some fairway, None where chance found none."""
    fairway = []
    for depths in sea:
        rows = [other for other in range(len(depths))
                if depths[other] >= draught and (not fairway or abs(other - fairway[-1]) <= 1)]
        if not rows:
            return None
        fairway.append(chance.choice(rows))
    return tuple(fairway)


def mixed_cases(seed, many, most_columns=6, most_rows=9):
    """Seas with some banks, a draught and a fairway; the same on each run."""
    chance = random.Random(seed)
    told = []
    while len(told) < many:
        rows = chance.randint(1, most_rows)
        depths = chance.choice(((1, 5, 5, 5, 9), (0, 2, 3, 4, 9), (5, 5, 5, 5, 5, 5, 1)))
        sea = tuple(tuple(chance.choice(depths) for row in range(rows))
                    for column in range(chance.randint(2, most_columns)))
        draught = chance.choice((1, 2, 3, 5))
        fairway = mixed_fairway(chance, sea, draught)
        if fairway is not None:
            told.append((sea, draught, fairway))
    return told


def mirrored(sea, fairway):
    return tuple(column[::-1] for column in sea), tuple(len(sea[0]) - 1 - row for row in fairway)


class Keeps(Asking):
    def kept(self, wanted, sea, fairway, columns, draught=3, side=UPPER):
        """The same holds of the sea seen from the other side."""
        other = {UPPER: LOWER, LOWER: UPPER}[side]
        self.tells(wanted, keeps, sea, draught, fairway, side, columns)
        self.tells(wanted, keeps, mirrored(sea, fairway)[0], draught, mirrored(sea, fairway)[1], other, columns)

    def test_no_marks_where_the_water_is_wide(self):
        self.kept(True, plain_sea(5, 9), (4,) * 5, ())
        self.kept(True, plain_sea(2, 2), (1, 1), ())

    def test_beyond_the_first_row_a_ship_is_wrong(self):
        self.kept(False, WIDE, MIDDLE, ())
        self.kept(False, plain_sea(2, 2), (0, 0), ())
        self.kept(False, plain_sea(2, 1), (0, 0), ())
        self.kept(True, plain_sea(2, 1), (0, 0), (1,))
        self.kept(False, plain_sea(3, 1), (0, 0, 0), (1,))
        self.kept(False, plain_sea(3, 1), (0, 0, 0), (2,))
        self.kept(True, plain_sea(3, 1), (0, 0, 0), (1, 2))

    def test_the_least_columns_one_fewer_one_more(self):
        sea = plain_sea(16, 3)
        fairway = (1,) * 16
        least = (2, 4, 6, 8, 10, 12, 14)
        self.kept(True, sea, fairway, least)
        for column in least:
            self.kept(False, sea, fairway, tuple(other for other in least if other != column))
        for column in range(1, 16, 2):
            self.kept(True, sea, fairway, tuple(sorted(least + (column,))))
        self.kept(True, sea, fairway, tuple(range(1, 16)))
        self.kept(False, sea, fairway, ())
        self.kept(True, sea, fairway, (1, 3, 5, 7, 9, 11, 13, 15))
        self.kept(False, sea, fairway, (1, 4, 6, 8, 10, 12, 14))

    def test_fair_water_of_one_row(self):
        sea = sea_of_texts("999", "191", "191", "999")
        self.kept(False, sea, (1, 1, 1, 1), (2,))
        self.kept(False, sea, (1, 1, 1, 1), (1,))
        self.kept(True, sea, (1, 1, 1, 1), (1, 2))
        self.kept(True, sea, (1, 1, 1, 1), (1, 2, 3))

    def test_one_piece_around_the_fairway(self):
        # Row 0 of column 2 is no bank, but a bank lies between it and the fairway.
        self.kept(False, sea_of_texts("9999", "9999", "9199"), (2, 2, 2), ())
        self.kept(True, sea_of_texts("9999", "9999", "9999"), (2, 2, 2), ())
        self.kept(True, sea_of_texts("9999", "9999", "1999"), (3, 3, 3), ())
        self.kept(False, sea_of_texts("9999", "9999", "9919"), (3, 3, 3), ())
        self.kept(True, sea_of_texts("9999", "9999", "9919"), (3, 3, 3), (1, 2))
        self.kept(False, sea_of_texts("9999", "9999", "9919"), (3, 3, 3), (1,))

    def test_banks_by_the_draught(self):
        sea = sea_of_texts("555", "255", "255")
        self.kept(True, sea, (1, 1, 1), (2,), draught=2)
        self.kept(False, sea, (1, 1, 1), (2,), draught=3)
        self.kept(True, sea, (1, 1, 1), (1, 2), draught=3)
        self.kept(False, sea, (1, 1, 2), (1,), draught=3)
        self.kept(True, sea, (1, 2, 2), (1,), draught=3)

    def test_a_mark_in_a_column_ahead(self):
        sea = sea_of_texts("99999", "99999", "99999", "11999")
        self.kept(False, sea, (3, 3, 3, 3), ())
        self.kept(False, sea, (3, 3, 3, 3), (1,))
        self.kept(True, sea, (3, 3, 3, 3), (2,))
        self.kept(True, sea, (3, 3, 3, 3), (3,))

    def test_a_mark_farther_inward_is_not_known(self):
        sea = sea_of_texts("999", "199", "999", "999")
        self.kept(False, sea, (1, 1, 1, 1), (2, 3))
        self.kept(True, sea, (1, 1, 1, 1), (1, 3))

    def test_wrong_in_the_first_columns_alone(self):
        self.kept(False, sea_of_texts("199", "199", "999", "999"), (1, 1, 2, 2), (2,))

    def test_the_fairway_s_bends(self):
        self.kept(True, plain_sea(5, 5), (0, 1, 2, 3, 4), (1, 3))
        self.kept(False, plain_sea(5, 5), (0, 1, 2, 3, 4), (1,))
        self.kept(False, plain_sea(5, 5), (0, 1, 2, 3, 4), (1, 4))
        self.kept(False, plain_sea(5, 5), (0, 1, 2, 3, 4), ())
        # A ship goes outward no faster than this fairway does.
        self.kept(True, plain_sea(5, 5), (4, 3, 2, 1, 0), ())
        self.kept(True, plain_sea(5, 5), (4, 3, 2, 1, 0), (1,))
        self.kept(False, plain_sea(5, 5), (3, 3, 2, 1, 0), ())
        for column in (1, 2, 3, 4):
            self.kept(True, plain_sea(5, 5), (3, 3, 2, 1, 0), (column,))
        self.kept(False, plain_sea(5, 5), (3, 3, 3, 2, 1), ())

    def test_each_side_by_its_own(self):
        sea = sea_of_texts("999", "199", "999")
        self.tells(False, keeps, sea, 3, (1, 1, 1), UPPER, (2,))
        self.tells(True, keeps, sea, 3, (1, 1, 1), LOWER, (2,))
        self.tells(False, keeps, sea, 3, (1, 1, 1), LOWER, ())

    def test_mixed_with_all_columns(self):
        for sea, draught, fairway in mixed_cases(70, 60):
            for side in SIDES:
                for columns in all_columns(sea):
                    wanted = not wrong_columns(sea, draught, fairway, side, columns)
                    self.tells(wanted, keeps, sea, draught, fairway, side, columns)

    def test_mixed_and_long(self):
        chance = random.Random(71)
        for sea, draught, fairway in mixed_cases(72, 100, most_columns=16):
            for side in SIDES:
                for repeat in range(4):
                    columns = tuple(column for column in range(1, len(sea)) if chance.random() < 0.7)
                    wanted = not wrong_columns(sea, draught, fairway, side, columns)
                    self.tells(wanted, keeps, sea, draught, fairway, side, columns)

    def test_refusals(self):
        for side in SIDES:
            self.refuses_each(keeps, (WIDE, 3, MIDDLE, side, (1, 5)), (
                (0, NoSea, NO_SEAS), (1, NoDraught, NO_DRAUGHTS), (2, NoFairway, NO_FAIRWAYS), (3, NoSide, NO_SIDES),
                (4, NoColumns, NO_COLUMNS),
            ))


class Fairway(Asking):
    def test_a_bank_for_this_draught(self):
        sea = sea_of_texts("345", "345", "345")
        for row, depth in enumerate((3, 4, 5)):
            for draught in range(1, 10):
                if draught <= depth:
                    self.tells(True, keeps, sea, draught, (row,) * 3, UPPER, (1, 2))
                else:
                    self.refuses(NoFairway, keeps, sea, draught, (row,) * 3, UPPER, (1, 2))

    def test_a_bank_in_any_column(self):
        for column in range(4):
            sea = tuple((9, 2) if other == column else (9, 9) for other in range(4))
            self.refuses(NoFairway, keeps, sea, 3, (1, 1, 1, 1), UPPER, ())
            fairway = tuple(0 if other == column else 1 for other in range(4))
            self.tells(True, keeps, sea, 3, fairway, UPPER, (1, 2, 3))

    def test_unlike_by_one_and_by_two(self):
        self.tells(True, keeps, plain_sea(4, 5), 3, (2, 3, 2, 1), UPPER, (1, 2, 3))
        for fairway in ((2, 4, 3, 2), (2, 0, 0, 0), (2, 2, 2, 4), (2, 2, 2, 0), (0, 4, 0, 4)):
            self.refuses(NoFairway, keeps, plain_sea(4, 5), 3, fairway, UPPER, (1, 2, 3))

    def test_of_all_lengths(self):
        for columns in range(2, 17):
            sea = plain_sea(columns, 1)
            self.tells(tuple(range(1, columns)), least_columns, sea, 5, (0,) * columns, UPPER)
            self.refuses(NoFairway, least_columns, sea, 5, (0,) * (columns - 1), UPPER)
            self.refuses(NoFairway, least_columns, sea, 5, (0,) * (columns + 1), UPPER)
            self.refuses(NoFairway, least_columns, sea, 5, [0] * columns, UPPER)


class LeastColumns(Asking):
    def test_examples(self):
        self.tells((5,), least_columns, WIDE, 3, MIDDLE, UPPER)
        self.tells((5,), least_columns, WIDE, 3, MIDDLE, LOWER)
        self.tells((2, 4, 6, 8, 10, 12, 14), least_columns, plain_sea(16, 3), 3, (1,) * 16, UPPER)
        self.tells((1, 2, 3), least_columns, plain_sea(4, 1), 3, (0,) * 4, LOWER)
        self.tells((1, 3), least_columns, plain_sea(5, 5), 3, (0, 1, 2, 3, 4), UPPER)
        self.tells((), least_columns, plain_sea(5, 5), 3, (0, 1, 2, 3, 4), LOWER)

    def test_none_where_none_is_wanted(self):
        self.tells((), least_columns, plain_sea(5, 9), 3, (4,) * 5, UPPER)
        self.tells((), least_columns, plain_sea(5, 9), 3, (4,) * 5, LOWER)
        self.tells((), least_columns, plain_sea(9, 9), 3, (8,) * 9, UPPER)
        self.tells((8,), least_columns, plain_sea(9, 9), 3, (7,) * 9, UPPER)

    def test_against_all_columns(self):
        for sea, draught, fairway in mixed_cases(73, 120):
            for side in SIDES:
                do = [columns for columns in all_columns(sea)
                      if not wrong_columns(sea, draught, fairway, side, columns)]
                told = least_columns(sea, draught, fairway, side)
                self.assertIn(told, do)
                self.assertEqual(len(told), min(len(columns) for columns in do))
                self.tells(self.going_inward(sea, draught, fairway, side), least_columns, sea, draught, fairway, side)

    def test_mixed_and_long(self):
        for sea, draught, fairway in mixed_cases(74, 150, most_columns=16):
            for side in SIDES:
                told = self.going_inward(sea, draught, fairway, side)
                self.tells(told, least_columns, sea, draught, fairway, side)
                self.tells(True, keeps, sea, draught, fairway, side, told)
                for column in told:
                    fewer = tuple(other for other in told if other != column)
                    self.tells(False, keeps, sea, draught, fairway, side, fewer)

    def going_inward(self, sea, draught, fairway, side):
        """By the words: a mark where without it, with those ahead, a ship could be wrong in this very column."""
        told = ()
        for column in range(1, len(sea)):
            if column in wrong_columns(sea, draught, fairway, side, told):
                told += (column,)
        return told

    def test_refusals(self):
        self.refuses_each(least_columns, (WIDE, 3, MIDDLE, LOWER), (
            (0, NoSea, NO_SEAS), (1, NoDraught, NO_DRAUGHTS), (2, NoFairway, NO_FAIRWAYS), (3, NoSide, NO_SIDES),
        ))


class Papers(Asking):
    SEA = plain_sea(10, 3)
    FAIRWAY = (1,) * 10

    def is_one(self, wanted, thing, sea=SEA, fairway=FAIRWAY):
        for side in SIDES:
            self.tells(wanted, is_paper, sea, 3, fairway, side, thing)

    def test_the_told_paper(self):
        told = ((1, 2), (3, 4), (5, 6), (7, 8))
        for side in SIDES:
            self.tells(told, paper_of, self.SEA, 3, self.FAIRWAY, side)
        self.is_one(True, told)

    def test_stretches_left_out(self):
        told = ((1, 2), (3, 4), (5, 6), (7, 8))
        for many in range(5):
            for paper in itertools.combinations(told, many):
                self.is_one(True, paper)

    def test_another_paper_with_as_many(self):
        self.is_one(True, ((2, 3), (4, 5), (6, 7), (8, 9)))
        self.is_one(True, ((1, 2), (4, 5), (8, 9)))

    def test_twice_and_in_another_order(self):
        for thing in (((1, 2), (1, 2)), ((3, 4), (1, 2)), ((1, 2), (5, 6), (3, 4)), ((7, 8), (5, 6), (3, 4), (1, 2)),
                      ((1, 2), (3, 4), (3, 4)), ((1, 2), (3, 4), (1, 2))):
            self.is_one(False, thing)

    def test_a_column_in_common(self):
        self.is_one(False, ((1, 2), (2, 3)))
        self.is_one(False, ((1, 2), (4, 5), (5, 6)))
        self.is_one(True, ((2, 3), (4, 5)))

    def test_one_within_another_one(self):
        # In column 4 the water is narrow, so that its stretch lies within that of column 5.
        sea = sea_of_texts("99999", "99999", "99999", "99999", "11199", "99999")
        fairway = (3,) * 6
        self.tells(((4, 4),), paper_of, sea, 3, fairway, UPPER)
        for thing, wanted in ((((4, 4),), True), (((2, 5),), True), (((2, 5), (4, 4)), False), (((3, 4),), False),
                              (((4, 4), (2, 5)), False), (((4, 4), (4, 4)), False), (((3, 5),), False)):
            self.tells(wanted, is_paper, sea, 3, fairway, UPPER, thing)

    def test_a_from_that_is_not_the_greatest(self):
        self.is_one(True, ((4, 5),))
        for start in (1, 2, 3, 5):
            self.is_one(False, ((start, 5),))
        self.is_one(False, ((1, 3), (4, 5)))

    def test_columns_that_there_are_not(self):
        for thing in (((0, 1),), ((0, 2),), ((0, 0),), ((-1, 2),), ((9, 10),), ((10, 11),), ((5, 4),), ((8, FAR),),
                      ((-FAR, 2),), ((1, 1),)):
            self.is_one(False, thing)

    def test_a_stretch_from_the_column_behind_the_first(self):
        self.tells(((1, 1),), paper_of, plain_sea(2, 1), 3, (0, 0), UPPER)
        self.is_one(True, ((1, 1),), plain_sea(2, 1), (0, 0))
        self.is_one(False, ((0, 1),), plain_sea(2, 1), (0, 0))
        self.is_one(False, ((1, 2),), plain_sea(2, 1), (0, 0))

    def test_other_kinds(self):
        for thing in ([(1, 2)], ([1, 2],), (1, 2), ((1,),), ((1, 2, 3),), ((True, 2),), ((1, 2), (3, 4), None),
                      ((1, 2), 5), ("12",), ((1, "2"),), ((None, 2),), ((1, None),), (((1,), 2),), ((1, [2]),),
                      {1: 2}, {(1, 2): True}, ({1: 2},), (((1, 2),),), ([],), ({},), ((),), "", None, 0, False):
            self.is_one(False, thing)
        self.is_one(False, ((1, True),), plain_sea(2, 1), (0, 0))
        self.is_one(False, ((True, True),), plain_sea(2, 1), (0, 0))
        for thing in WHATEVER:
            self.is_one(thing == (), thing)
            self.is_one(thing == (), thing, plain_sea(2, 1), (0, 0))

    def test_without_stretches(self):
        self.is_one(True, ())
        for side in SIDES:
            self.tells((), paper_of, plain_sea(4, 9), 3, (4,) * 4, side)
            self.tells(True, is_paper, plain_sea(4, 9), 3, (4,) * 4, side, ())
            self.tells(False, is_paper, plain_sea(4, 9), 3, (4,) * 4, side, ((3, 3),))
            self.tells(False, is_paper, plain_sea(4, 9), 3, (4,) * 4, side, ((1, 3),))

    def test_of_one_side_is_none_of_the_other(self):
        sea = sea_of_texts("9999", "1999", "9991")
        self.tells(((1, 1),), paper_of, sea, 3, (1, 1, 1), UPPER)
        self.tells(((1, 2),), paper_of, sea, 3, (1, 1, 1), LOWER)
        self.tells(False, is_paper, sea, 3, (1, 1, 1), LOWER, ((1, 1),))
        sea = sea_of_texts("9999", "1999", "9999")
        self.tells((), paper_of, sea, 3, (1, 1, 1), LOWER)
        self.tells(False, is_paper, sea, 3, (1, 1, 1), LOWER, ((1, 2),))
        self.tells(True, is_paper, sea, 3, (1, 1, 1), UPPER, ((1, 2),))

    def test_mixed_told_papers(self):
        for sea, draught, fairway in mixed_cases(75, 150, most_columns=16):
            for side in SIDES:
                by_end = {end: (start, end) for start, end in stretches_slowly(sea, draught, fairway, side)}
                least = least_columns(sea, draught, fairway, side)
                wanted = tuple(by_end[column] for column in least)
                self.tells(wanted, paper_of, sea, draught, fairway, side)
                self.tells(True, is_paper, sea, draught, fairway, side, wanted)
                self.assertEqual(len(wanted), len(least))

    def test_mixed_things(self):
        for sea, draught, fairway in mixed_cases(76, 25, most_columns=5, most_rows=4):
            pairs = list(itertools.product(range(len(sea) + 1), repeat=2))
            things = random.Random(77).sample(list(itertools.product(pairs, repeat=2)), 60)
            things += [(pair,) for pair in pairs]
            for side in SIDES:
                stretches = stretches_slowly(sea, draught, fairway, side)
                things_here = things + list(itertools.product(stretches, repeat=2))
                for thing in things_here + list(itertools.product(stretches, repeat=3))[:40]:
                    self.tells(self.paper_by_words(stretches, thing), is_paper, sea, draught, fairway, side, thing)

    def paper_by_words(self, stretches, thing):
        columns = [column for start, end in thing for column in range(start, end + 1)]
        rises = all(ahead < pair for ahead, pair in zip(thing, thing[1:]))
        return all(pair in stretches for pair in thing) and rises and len(columns) == len(set(columns))

    def test_no_fewer_marks_than_a_paper_has_stretches(self):
        for sea, draught, fairway in mixed_cases(78, 60):
            for side in SIDES:
                paper = paper_of(sea, draught, fairway, side)
                for columns in all_columns(sea):
                    if keeps(sea, draught, fairway, side, columns):
                        for start, end in paper:
                            self.assertTrue(any(start <= column <= end for column in columns))

    def test_refusals(self):
        refusals = (
            (0, NoSea, NO_SEAS), (1, NoDraught, NO_DRAUGHTS), (2, NoFairway, NO_FAIRWAYS), (3, NoSide, NO_SIDES),
        )
        self.refuses_each(paper_of, (WIDE, 3, MIDDLE, UPPER), refusals)
        for thing in ((), ((1, 5),), None, [[]]):
            self.refuses_each(is_paper, (WIDE, 3, MIDDLE, UPPER, thing), refusals)


if __name__ == "__main__":
    unittest.main()
