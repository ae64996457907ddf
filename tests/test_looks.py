"""Points 60 and 61: marks that look alike, and which marks sightings can be."""

import itertools
import random
import unittest

from asking import (
    FAR, WHATEVER, Asking, all_cells, lay, mixed_notices, mixed_sea, no_wholes, numbered, plain_sea, refusals_of_day,
    sea_of_texts,
)

from laidmarks.errors import NoNumber, NoSightings
from laidmarks.looks import alike, can_be, lacking
from laidmarks.marks import mark_at, standing

DAY, NIGHT = False, True
SEA = plain_sea(16, 9)
LIT = (0, 0, True)
DARK = (0, 0, False)
RED = (0, 1, True)


class Alike(Asking):
    def looks(self, wanted, notices, sight, day=0, night=DAY, sea=SEA, held=99):
        self.tells_in_any_order(wanted, alike, sea, notices, held, day, night, sight)

    def test_none_and_one(self):
        for night in (DAY, NIGHT):
            self.looks([], [], 15, night=night)
            self.looks([], numbered((0, lay(1, (0, 0)))), 15, night=night)

    def test_columns_that_differ(self):
        for columns in range(16):
            notices = numbered((0, lay(1, (0, 4))), (0, lay(2, (columns, 4))))
            for sight in range(16):
                self.looks([(1, 2)] if columns <= sight else [], notices, sight)

    def test_rows_that_differ(self):
        for rows in range(9):
            notices = numbered((0, lay(1, (5, rows))), (0, lay(2, (5, 0))))
            for sight in range(16):
                self.looks([(1, 2)] if rows <= sight else [], notices, sight)

    def test_neither_may_differ_by_more(self):
        for other, least_sight in (((8, 7), 4), ((8, 6), 4), ((5, 7), 4), ((0, 3), 4), ((9, 3), 5), ((4, 8), 5),
                                   ((3, 2), 1), ((5, 4), 1), ((3, 4), 1), ((5, 2), 1), ((4, 3), 0)):
            notices = numbered((0, lay(1, (4, 3))), (0, lay(2, other)))
            for sight in range(16):
                self.looks([(1, 2)] if sight >= least_sight else [], notices, sight)

    def test_shape_colour_and_light_must_be_the_same(self):
        looks = list(itertools.product(range(3), range(3), (True, False)))
        for look, other in itertools.product(looks, looks):
            notices = numbered((0, lay(1, (0, 0), look[0], look[1], 5, look[2])),
                               (0, lay(2, (0, 0), other[0], other[1], 5, other[2])))
            self.tells([(1, 2)] if look == other else [], alike, SEA, notices, 99, 0, DAY, 0)
            self.tells([(1, 2)] if look == other and look[2] else [], alike, SEA, notices, 99, 0, NIGHT, 0)

    def test_sinkers_are_not_looked_at(self):
        self.looks([(1, 2)], numbered((0, lay(1, (0, 0), sinker=1)), (0, lay(2, (0, 0), sinker=9))), 0)

    def test_pairs_rise_the_lesser_mark_first(self):
        notices = numbered((0, lay(12, (0, 0))), (0, lay(3, (1, 0))), (0, lay(10, (2, 0))),
                           (0, lay(2, (0, 0), colour=1)), (0, lay(1, (3, 0), colour=1)))
        self.looks([(1, 2), (3, 10), (3, 12), (10, 12)], notices, 15)
        self.looks([(3, 10), (3, 12), (10, 12)], notices, 2)
        self.looks([(3, 10), (3, 12)], notices, 1)
        self.looks([], notices, 0)

    def test_by_night_lit_ones_alone(self):
        notices = numbered((0, lay(1, (0, 0), lit=True)), (0, lay(2, (0, 0), lit=False)),
                           (0, lay(3, (0, 0), lit=False)), (0, lay(4, (0, 0), lit=True)))
        self.looks([(1, 4), (2, 3)], notices, 0, night=DAY)
        self.looks([(1, 4)], notices, 0, night=NIGHT)

    def test_marks_adrift_and_ashore_are_not_looked_at(self):
        notices = numbered((0, lay(1, (0, 0), sinker=1)), (0, lay(2, (0, 0), sinker=9)), (0, lay(3, (0, 0), sinker=9)),
                           (1, ("gale", 5)), (2, ("lift", 3)))
        self.looks([(1, 2), (1, 3), (2, 3)], notices, 0, day=0)
        self.looks([(2, 3)], notices, 15, day=1)
        self.looks([], notices, 15, day=2)

    def test_to_the_held_number(self):
        notices = [(7, 0, lay(1, (0, 0))), (9, 0, lay(2, (0, 0)))]
        self.looks([], notices, 15, held=8)
        self.looks([(1, 2)], notices, 15, held=9)

    def test_refusals(self):
        no_sights = no_wholes(range(16)) + [-1, 16, True, False, "1", (1,), [1], {1: 1}]
        refusals = refusals_of_day(SEA) + ((5, NoNumber, no_sights),)
        for night in (DAY, NIGHT):
            self.refuses_each(alike, (SEA, numbered((0, lay(1, (0, 0)))), 5, 5, night, 5), refusals)

    def test_mixed(self):
        chance = random.Random(60)
        for repeat in range(200):
            sea = mixed_sea(chance, 6, 6)
            notices = mixed_notices(chance, sea, marks=12)
            held, day, sight = chance.choice((60, 99)), chance.randint(0, 7), chance.randint(0, 4)
            for night in (DAY, NIGHT):
                wanted = [
                    (one[0], two[0]) for one, two in itertools.combinations(standing(sea, notices, held, day), 2)
                    if one[2] == two[2] and (one[2][2] or not night)
                    and max(abs(one[1][0] - two[1][0]), abs(one[1][1] - two[1][1])) <= sight
                ]
                self.tells(wanted, alike, sea, notices, held, day, night, sight)


def dragged(*cells_and_looks):
    """Notices by which the marks from 1 on, at these cells with these looks, are adrift from day 1 on."""
    laid = [(0, lay(mark, cell, look[0], look[1], 1, look[2]))
            for mark, (cell, look) in enumerate(cells_and_looks, start=1)]
    return numbered(*laid, (1, ("gale", 2)))


def givings(choices):
    """All ways of giving each sighting another mark, one by one."""
    return [giving for giving in itertools.product(*choices) if len(set(giving)) == len(giving)]


def told_by_givings(choices):
    every = givings(choices)
    if not every:
        return None
    return [tuple(sorted({giving[at] for giving in every})) for at in range(len(choices))]


def lacking_one_by_one(choices):
    for many in range(1, len(choices) + 1):
        for numbers in itertools.combinations(range(len(choices)), many):
            if len(set().union(*[choices[at] for at in numbers])) < many:
                return numbers
    return None


def drifted(sea, notices, day):
    """Of all marks that are adrift the tuples (mark, cells, look); each is laid at most once."""
    told = []
    for word, *parts in sorted(notice[2] for notice in notices if notice[2][0] == "lay"):
        mark, cell, shape, colour, sinker, lit = parts
        where = mark_at(sea, notices, 99, day, mark)
        if where[0] == "adrift":
            told.append((mark, where[1], (shape, colour, lit)))
    return told


def marks_one_by_one(sea, notices, day, sighting):
    return [mark for mark, cells, look in drifted(sea, notices, day) if sighting[0] in cells and sighting[1] == look]


def mixed_drifts(chance, sea):
    marks, looks, cells = chance.randint(2, 12), (LIT, DARK, RED)[:chance.randint(1, 3)], all_cells(sea)
    seen = [(chance.randint(1, 4), ("seen", chance.randint(1, marks), chance.choice(cells)))
            for at in range(chance.randint(0, 6))]
    notices = dragged(*[(chance.choice(cells), chance.choice(looks)) for mark in range(marks)])
    return notices + [(40 + at, *day_and_deed) for at, day_and_deed in enumerate(seen)]


def mixed_sightings(chance, sea, notices, day):
    """Most of them where some mark is, so that often all can be told apart."""
    marks = drifted(sea, notices, day)
    sightings = []
    for at in range(chance.randint(0, 6)):
        if marks and chance.random() < 0.9:
            mark, cells, look = chance.choice(marks)
            sightings.append((chance.choice(cells), look))
        else:
            sightings.append((chance.choice(all_cells(sea)), chance.choice((LIT, DARK, RED))))
    return sightings


class Sightings(Asking):
    def gives(self, can, lacks, notices, sightings, day=1, sea=SEA, held=99):
        self.tells_in_any_order(can, can_be, sea, notices, held, day, sightings)
        self.tells_in_any_order(lacks, lacking, sea, notices, held, day, sightings)

    def test_none(self):
        self.gives([], None, [], [])
        self.gives([], None, dragged(((0, 0), LIT)), [])

    def test_one(self):
        notices = dragged(((4, 4), LIT))
        self.gives([(1,)], None, notices, [((4, 4), LIT)])
        self.gives(None, (0,), notices, [((4, 5), LIT)])
        self.gives([(1,)], None, notices, [((4, 5), LIT)], day=2)
        self.gives(None, (0,), notices, [((5, 5), LIT)], day=2)
        self.gives([(1,)], None, notices, [((5, 5), LIT)], day=3)

    def test_adrift_that_day(self):
        notices = dragged(((4, 4), LIT)) + [(50, 4, ("lift", 1)), (51, 5, lay(1, (4, 4)))]
        for day, adrift in ((0, False), (1, True), (2, True), (3, True), (4, False), (5, False), (400, False)):
            can, lacks = ([(1,)], None) if adrift else (None, (0,))
            self.gives(can, lacks, notices, [((4, 4), LIT)], day=day)

    def test_seen_since(self):
        notices = dragged(((4, 4), LIT)) + [(50, 3, ("seen", 1, (4, 6)))]
        self.gives([(1,)], None, notices, [((4, 4), LIT)], day=2)
        self.gives(None, (0,), notices, [((4, 4), LIT)], day=3)
        self.gives([(1,)], None, notices, [((4, 6), LIT)], day=3)
        self.gives([(1,)], None, notices, [((4, 7), LIT)], day=4)

    def test_each_look(self):
        looks = list(itertools.product(range(3), range(3), (True, False)))
        for look, other in itertools.product(looks, looks):
            can, lacks = ([(1,)], None) if look == other else (None, (0,))
            self.tells(can, can_be, SEA, dragged(((0, 0), look)), 99, 1, [((0, 0), other)])
            self.tells(lacks, lacking, SEA, dragged(((0, 0), look)), 99, 1, [((0, 0), other)])

    def test_the_look_of_the_last_laying(self):
        notices = dragged(((4, 4), LIT)) + [
            (50, 2, ("lift", 1)), (51, 3, lay(1, (4, 4), 2, 1, 1, False)), (52, 4, ("gale", 9))]
        self.gives(None, (0,), notices, [((4, 4), LIT)], day=4)
        self.gives([(1,)], None, notices, [((4, 4), (2, 1, False))], day=4)

    def test_several_marks_for_one(self):
        notices = dragged(((0, 0), LIT), ((0, 1), LIT), ((0, 0), DARK), ((9, 0), LIT), ((0, 0), LIT))
        self.gives([(1, 5)], None, notices, [((0, 0), LIT)])
        self.gives([(1, 2, 5)], None, notices, [((0, 0), LIT)], day=2)

    def test_marks_rise_whatever_the_order_in_which_they_went_adrift(self):
        notices = numbered((0, lay(10, (0, 0), sinker=2)), (0, lay(12, (0, 0), sinker=1)),
                           (0, lay(3, (0, 0), sinker=2)), (0, lay(2, (0, 0), sinker=5)),
                           (1, ("gale", 2)), (1, ("gale", 3)), (1, ("gale", 6)))
        self.gives([(2, 3, 10, 12)], None, notices, [((0, 0), LIT)])
        self.gives([(2, 3, 10, 12)] * 2, None, notices, [((0, 0), LIT)] * 2)

    def test_alike_sightings(self):
        notices = dragged(((0, 0), LIT), ((0, 0), LIT), ((0, 0), LIT))
        sighting = ((0, 0), LIT)
        self.gives([(1, 2, 3)] * 2, None, notices, [sighting] * 2)
        self.gives([(1, 2, 3)] * 3, None, notices, [sighting] * 3)
        self.gives(None, (0, 1, 2, 3), notices, [sighting] * 4)
        self.gives(None, (0, 1, 2, 3), notices, [sighting] * 6)

    def test_one_that_only_one_mark_can_be(self):
        # Mark 1 alone can be in the corner, so it can't be the other sighting.
        notices = dragged(((0, 0), LIT), ((2, 0), LIT))
        self.gives([(1,), (2,)], None, notices, [((0, 0), LIT), ((1, 0), LIT)], day=2)
        self.gives([(2,), (1,)], None, notices, [((1, 0), LIT), ((0, 0), LIT)], day=2)
        self.gives([(1, 2)], None, notices, [((1, 0), LIT)], day=2)

    def test_told_one_behind_the_other(self):
        notices = dragged(((0, 0), LIT), ((2, 0), LIT), ((4, 0), LIT))
        self.gives([(1,), (2,), (3,)], None, notices, [((0, 0), LIT), ((1, 0), LIT), ((3, 0), LIT)], day=2)
        self.gives([(1, 2), (2, 3)], None, notices, [((1, 0), LIT), ((3, 0), LIT)], day=2)
        self.gives([(1, 2), (1, 2), (3,)], None, notices, [((1, 0), LIT), ((1, 0), LIT), ((3, 0), LIT)], day=2)

    def test_no_two_of_the_same_mark(self):
        self.gives(None, (0, 1), dragged(((0, 0), LIT)), [((0, 0), LIT), ((0, 0), LIT)])
        self.gives(None, (0, 1), dragged(((0, 0), LIT)), [((0, 0), LIT), ((0, 1), LIT)], day=2)

    def test_more_sightings_than_marks(self):
        notices = dragged(((0, 0), LIT), ((0, 0), LIT))
        sightings = [((0, 0), LIT), ((0, 1), LIT), ((1, 0), LIT)]
        self.gives(None, (0, 1, 2), notices, sightings, day=2)

    def test_six_and_twelve(self):
        notices = dragged(*[((mark, 0), LIT) for mark in range(12)])
        self.gives([(at + 1,) for at in range(6)], None, notices, [((at, 0), LIT) for at in range(6)])
        everyone = tuple(range(1, 13))
        self.gives([everyone] * 6, None, notices, [((5, 0), LIT)] * 6, day=400)

    def test_the_fewest_that_are_lacking(self):
        notices = dragged(((0, 0), LIT), ((0, 0), LIT), ((5, 0), RED))
        good, red, nothing = ((0, 0), LIT), ((5, 0), RED), ((9, 0), LIT)
        self.gives(None, (3,), notices, [good, good, good, nothing])
        self.gives(None, (3, 4), notices, [good, good, good, red, red])
        self.gives(None, (0, 3), notices, [red, good, good, red, good])
        self.gives(None, (0, 1, 2), notices, [good, good, good, red])

    def test_of_these_the_least(self):
        notices = dragged(((0, 0), LIT), ((5, 0), RED))
        good, red, nothing = ((0, 0), LIT), ((5, 0), RED), ((9, 0), LIT)
        self.gives(None, (1,), notices, [good, nothing, nothing, good])
        self.gives(None, (0, 2), notices, [good, red, good, red])
        self.gives(None, (0, 3), notices, [good, red, red, good])
        self.gives(None, (0, 1), notices, [good, good, red, red, good, red])

    def test_to_the_held_number(self):
        notices = dragged(((0, 0), LIT), ((0, 0), LIT))
        sightings = [((0, 0), LIT)]
        self.gives(None, (0,), notices, sightings, held=2)
        self.gives([(1, 2)], None, notices, sightings, held=3)
        self.gives([(1,)], None, [(9, 0, lay(2, (0, 0), sinker=1)), notices[0], notices[2]], sightings, held=8)

    def test_by_the_depths_of_the_day(self):
        narrow = sea_of_texts("1", "1", "1")
        notices = dragged(((0, 0), LIT)) + [(50, 4, ("depth", (1, 0), 0)), (51, 6, ("depth", (0, 0), 0))]
        for day, can in ((3, True), (4, False), (5, False)):
            self.gives([(1,)] if can else None, None if can else (0,), notices, [((2, 0), LIT)], day, narrow)
        # It can be on land where that is the cell from which it drifts.
        self.gives([(1,)], None, notices, [((0, 0), LIT)], 6, narrow)

    def test_refusals(self):
        good = ((0, 0), LIT)
        no_sightings = [thing for thing in WHATEVER if thing != []] + [
            [good] * 7, [good] * 30, (good,), good, {0: good}, [list(good)], [good, None], [None, good],
            [good, good, ()], [((0, 0),)], [((0, 0), LIT, 0)], [(LIT, (0, 0))], [((0, 0), 0, 0, True)], [good, [good]],
            [((16, 0), LIT)], [((0, 9), LIT)], [((-1, 0), LIT)], [((0, -1), LIT)], [((FAR, 0), LIT)],
            [((True, 0), LIT)], [((0, False), LIT)], [([0, 0], LIT)], [((0,), LIT)], [((0, 0, 0), LIT)], [("0.0", LIT)],
            [(None, LIT)], [({}, LIT)], [((0, "0"), LIT)],
            [((0, 0), (3, 0, True))], [((0, 0), (0, 3, True))], [((0, 0), (-1, 0, True))], [((0, 0), (0, -1, True))],
            [((0, 0), (True, 0, True))], [((0, 0), (0, False, True))], [((0, 0), (0, 0, 1))], [((0, 0), (0, 0, 0))],
            [((0, 0), (0, 0, None))], [((0, 0), (0, 0, "lit"))], [((0, 0), (0, 0))], [((0, 0), (0, 0, True, 1))],
            [((0, 0), [0, 0, True])], [((0, 0), ([], 0, True))], [((0, 0), (0, {}, True))], [((0, 0), ())],
            [((0, 0), None)], [((0, 0), "00lit")], [((0, 0), {})], [((0, 0), (0, 0, [True]))],
        ]
        refusals = refusals_of_day(SEA) + ((4, NoSightings, no_sightings),)
        notices = dragged(((0, 0), LIT))
        for call in (can_be, lacking):
            self.refuses_each(call, (SEA, notices, 99, 5, [good]), refusals)
            self.refuses_each(call, (SEA, notices, 99, 5, []), refusals)

    def test_bounds_of_what_is_a_sighting(self):
        for cell in ((0, 0), (15, 8), (15, 0), (0, 8)):
            for look in itertools.product((0, 1, 2), (0, 1, 2), (True, False)):
                self.tells((0,), lacking, SEA, [], 0, 0, [(cell, look)])

    def test_what_is_handed_in_is_not_kept(self):
        notices, sightings = dragged(((0, 0), LIT)), [((0, 0), LIT)]
        self.assertEqual(can_be(SEA, notices, 99, 1, sightings), [(1,)])
        sightings.append(((0, 0), LIT))
        self.assertIsNone(can_be(SEA, notices, 99, 1, sightings))
        self.assertEqual(lacking(SEA, notices, 99, 1, sightings), (0, 1))
        sightings.clear()
        self.assertEqual(can_be(SEA, notices, 99, 1, sightings), [])

    def test_mixed(self):
        chance = random.Random(61)
        told_apart = 0
        for repeat in range(400):
            sea = mixed_sea(chance, 4, 3)
            notices, day = mixed_drifts(chance, sea), chance.randint(1, 4)
            sightings = mixed_sightings(chance, sea, notices, day)
            choices = [marks_one_by_one(sea, notices, day, sighting) for sighting in sightings]
            wanted = told_by_givings(choices)
            told_apart += wanted is not None and len(sightings) > 1
            self.tells(wanted, can_be, sea, notices, 99, day, sightings)
            self.tells(lacking_one_by_one(choices), lacking, sea, notices, 99, day, sightings)
            self.assertEqual(wanted is None, lacking_one_by_one(choices) is not None)
        self.assertGreater(told_apart, 100)


if __name__ == "__main__":
    unittest.main()
