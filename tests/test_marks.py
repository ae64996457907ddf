"""Points 22 and 30 to 32: void notices, the sea of a day, where marks are, and which ones stand."""

import random
import unittest

from asking import (
    WHATEVER, Asking, all_cells, cells_of_water, drift_by_steps, lay, mixed_notices, mixed_sea, no_wholes, numbered,
    plain_sea, refusals_of_day, sea_of_texts,
)

from laidmarks.errors import NoMark
from laidmarks.marks import mark_at, sea_of, standing, void
from laidmarks.seas import drift

# Five columns of three rows, with land in the midst of the last column but one.
SEA = sea_of_texts("555", "555", "555", "505", "555")
LAND = (3, 1)
ASHORE = ("ashore",)


def at(cell):
    return ("at", cell)


def adrift(*cells):
    return ("adrift", cells)


class Void(Asking):
    def voids(self, wanted, *days_and_deeds, sea=SEA):
        self.tells_in_any_order(wanted, void, sea, numbered(*days_and_deeds), 99)

    def test_no_notices(self):
        for held in range(100):
            self.tells([], void, SEA, [], held)

    def test_laid(self):
        self.voids([], (0, lay(1, (0, 0))))
        self.voids([], (0, lay(1, (0, 0))), (0, lay(2, (0, 0))), (400, lay(12, (0, 0))))

    def test_laid_again(self):
        self.voids([2], (0, lay(1, (0, 0))), (0, lay(1, (0, 0))))
        self.voids([2, 3], (0, lay(1, (0, 0))), (5, lay(1, (1, 0))), (5, lay(1, (2, 0))))
        self.voids([], (0, lay(1, (0, 0))), (5, ("lift", 1)), (5, lay(1, (1, 0))))

    def test_laid_while_adrift(self):
        self.voids([3], (0, lay(1, (0, 0), sinker=1)), (1, ("gale", 2)), (2, lay(1, (1, 0))))
        self.voids([], (0, lay(1, (0, 0), sinker=1)), (1, ("gale", 2)), (2, ("lift", 1)), (2, lay(1, (1, 0))))

    def test_laid_on_land(self):
        self.voids([1], (0, lay(1, LAND)))
        self.voids([1, 2], (0, lay(1, LAND)), (1, ("lift", 1)))

    def test_laid_on_what_was_land_or_is_land_now(self):
        self.voids([], (3, ("depth", LAND, 1)), (3, lay(1, LAND)))
        self.voids([1], (3, lay(1, LAND)), (3, ("depth", LAND, 1)))
        self.voids([2], (3, ("depth", (0, 0), 0)), (3, lay(1, (0, 0))))
        self.voids([], (3, lay(1, (0, 0))), (3, ("depth", (0, 0), 0)))
        self.voids([3], (3, ("depth", (0, 0), 9)), (4, ("depth", (0, 0), 0)), (5, lay(1, (0, 0))))
        self.voids([], (3, ("depth", (0, 0), 0)), (4, ("depth", (0, 0), 1)), (5, lay(1, (0, 0))))

    def test_lifted(self):
        self.voids([], (0, lay(1, (0, 0))), (0, ("lift", 1)))
        self.voids([], (0, lay(1, (0, 0), sinker=1)), (1, ("gale", 9)), (9, ("lift", 1)))

    def test_lifted_ashore(self):
        self.voids([1], (0, ("lift", 1)))
        self.voids([2], (0, lay(1, (0, 0))), (1, ("lift", 2)))
        self.voids([3], (0, lay(1, (0, 0))), (1, ("lift", 1)), (2, ("lift", 1)))

    def test_gales_and_depths_are_never_void(self):
        self.voids([], (0, ("gale", 1)), (0, ("gale", 9)), (0, ("gale", 9)))
        self.voids([], (0, ("depth", LAND, 0)), (0, ("depth", (0, 0), 5)), (0, ("depth", (0, 0), 0)))
        self.voids([], (0, lay(1, (0, 0))), (0, ("depth", (0, 0), 0)))

    def test_seen_adrift(self):
        self.voids([], (0, lay(1, (0, 0), sinker=1)), (1, ("gale", 2)), (2, ("seen", 1, (1, 0))))

    def test_seen_at_its_place(self):
        self.voids([2], (0, lay(1, (0, 0))), (0, ("seen", 1, (0, 0))))
        self.voids([3], (0, lay(1, (0, 0))), (0, ("gale", 5)), (0, ("seen", 1, (0, 0))))

    def test_seen_ashore(self):
        self.voids([1], (0, ("seen", 1, (0, 0))))
        self.voids(
            [4], (0, lay(1, (0, 0), sinker=1)), (1, ("gale", 2)), (2, ("lift", 1)), (2, ("seen", 1, (0, 0)))
        )

    def test_seen_where_it_can_not_be_on_that_day(self):
        for days in range(8):
            for cell in all_cells(SEA):
                wanted = [] if cell in drift(SEA, (0, 0), days) else [3]
                notices = (4, lay(1, (0, 0), sinker=1)), (5, ("gale", 2)), (5 + days, ("seen", 1, cell))
                self.tells(wanted, void, SEA, numbered(*notices), 99)

    def test_seen_again_from_where_it_was_seen(self):
        gone = (0, lay(1, (0, 0), sinker=1)), (0, ("gale", 2))
        self.voids([], *gone, (2, ("seen", 1, (2, 0))), (3, ("seen", 1, (3, 0))))
        self.voids([4], *gone, (2, ("seen", 1, (0, 0))), (3, ("seen", 1, (2, 0))))
        self.voids([4], *gone, (2, ("seen", 1, (2, 0))), (2, ("seen", 1, (1, 0))))
        self.voids([], *gone, (2, ("seen", 1, (2, 0))), (2, ("seen", 1, (2, 0))))

    def test_a_void_sight_moves_nothing(self):
        gone = (0, lay(1, (0, 0), sinker=1)), (0, ("gale", 2))
        self.voids([3, 4], *gone, (1, ("seen", 1, (4, 2))), (2, ("seen", 1, (4, 1))))
        self.voids([3], *gone, (1, ("seen", 1, (4, 2))), (2, ("seen", 1, (1, 1))))

    def test_seen_by_the_depths_as_they_are_then(self):
        gone = (0, lay(1, (0, 0), sinker=1)), (0, ("gale", 2))
        narrow = sea_of_texts("1", "1", "1")
        self.voids([], *gone, (2, ("seen", 1, (2, 0))), (2, ("depth", (1, 0), 0)), sea=narrow)
        self.voids([4], *gone, (2, ("depth", (1, 0), 0)), (2, ("seen", 1, (2, 0))), sea=narrow)
        self.voids([], *gone, (1, ("depth", (1, 0), 0)), (2, ("depth", (1, 0), 3)), (2, ("seen", 1, (2, 0))),
                   sea=narrow)
        self.voids([4], *gone, (2, ("depth", (2, 0), 0)), (2, ("seen", 1, (2, 0))), sea=narrow)

    def test_seen_where_it_went_adrift_that_is_land_by_then(self):
        gone = (0, lay(1, (0, 0), sinker=1)), (0, ("gale", 2)), (2, ("depth", (0, 0), 0))
        self.voids([], *gone, (3, ("seen", 1, (0, 0))))
        self.voids([4], *gone, (3, ("seen", 1, (1, 0))))

    def test_what_is_void_does_nothing(self):
        self.voids([1, 2], (0, lay(1, LAND)), (1, ("lift", 1)), (2, lay(1, (0, 0))))
        self.voids([2], (0, lay(1, (0, 0), sinker=9)), (1, lay(1, (1, 0), sinker=1)), (2, ("lift", 1)))
        self.voids([2, 4], (0, lay(1, (0, 0), sinker=9)), (1, lay(1, (1, 0), sinker=1)), (2, ("gale", 9)),
                   (3, ("seen", 1, (0, 0))))

    def test_by_days_then_by_numbers(self):
        first, second = ("lift", 1), lay(1, (0, 0))
        for lift_number, lay_number in ((1, 2), (2, 1), (9, 10), (10, 9), (99, 1), (1, 99)):
            for lift_day, lay_day in ((3, 3), (3, 4), (4, 3), (0, 400), (400, 0), (9, 10), (10, 9)):
                laid_ahead = (lay_day, lay_number) < (lift_day, lift_number)
                notices = [(lift_number, lift_day, first), (lay_number, lay_day, second)]
                self.tells_in_any_order([] if laid_ahead else [lift_number], void, SEA, notices, 99)

    def test_numbers_rise_whatever_the_days(self):
        notices = [(30, 1, ("lift", 1)), (5, 9, ("lift", 1)), (99, 0, ("lift", 1)), (10, 4, ("lift", 1))]
        self.tells_in_any_order([5, 10, 30, 99], void, SEA, notices, 99)

    def test_told_twice_counts_once(self):
        laid, lifted = (1, 0, lay(1, (0, 0))), (2, 3, ("lift", 1))
        self.tells([], void, SEA, [laid, laid, lifted, lifted, laid], 99)
        self.tells([2], void, SEA, [lifted] * 30, 99)

    def test_to_the_held_number(self):
        notices = [(1, 5, lay(1, (0, 0))), (3, 7, ("lift", 1)), (2, 6, ("lift", 1)), (99, 0, ("lift", 2))]
        for held in range(100):
            wanted = [3] if held >= 3 else []
            wanted = wanted + [99] if held == 99 else wanted
            self.tells_in_any_order(wanted, void, SEA, notices, held)

    def test_what_is_not_held_is_as_if_never_told(self):
        notices = [(50, 0, lay(1, (0, 0))), (40, 1, ("lift", 1))]
        self.tells([40], void, SEA, notices, 49)
        self.tells([], void, SEA, notices, 50)
        notices = [(50, 0, ("depth", LAND, 4)), (40, 1, lay(1, LAND))]
        self.tells([40], void, SEA, notices, 49)
        self.tells([], void, SEA, notices, 50)

    def test_refusals(self):
        self.refuses_each(void, (SEA, numbered((0, ("lift", 1))), 5), refusals_of_day(SEA)[:3])

    def test_what_is_handed_in_is_not_kept(self):
        notices = numbered((0, ("lift", 1)))
        self.assertEqual(void(SEA, notices, 99), [1])
        notices.append((2, 0, ("lift", 2)))
        self.assertEqual(void(SEA, notices, 99), [1, 2])
        notices.clear()
        self.assertEqual(void(SEA, notices, 99), [])


class SeaOf(Asking):
    def test_without_notices(self):
        for day in (0, 1, 400):
            self.tells(SEA, sea_of, SEA, [], 99, day)

    def test_from_that_day_on(self):
        notices = numbered((3, ("depth", (1, 2), 7)))
        after = sea_of_texts("555", "557", "555", "505", "555")
        for day in range(401):
            self.tells(SEA if day < 3 else after, sea_of, SEA, notices, 99, day)

    def test_days_nought_and_four_hundred(self):
        notices = numbered((0, ("depth", (0, 0), 0)), (400, ("depth", (4, 2), 9)))
        first = sea_of_texts("055", "555", "555", "505", "555")
        last = sea_of_texts("055", "555", "555", "505", "559")
        self.tells(first, sea_of, SEA, notices, 99, 0)
        self.tells(first, sea_of, SEA, notices, 99, 399)
        self.tells(last, sea_of, SEA, notices, 99, 400)

    def test_each_cell_and_each_depth(self):
        for cell in all_cells(SEA):
            for depth in range(10):
                wanted = tuple(
                    tuple(depth if (column, row) == cell else old for row, old in enumerate(depths))
                    for column, depths in enumerate(SEA)
                )
                self.tells(wanted, sea_of, SEA, [(1, 0, ("depth", cell, depth))], 1, 0)

    def test_one_cell_again_and_again(self):
        notices = [(8, 1, ("depth", (0, 0), 1)), (2, 4, ("depth", (0, 0), 2)), (9, 2, ("depth", (0, 0), 3)),
                   (7, 2, ("depth", (0, 0), 4)), (1, 400, ("depth", (0, 0), 0))]
        for day, depth in ((0, 5), (1, 1), (2, 3), (3, 3), (4, 2), (399, 2), (400, 0)):
            wanted = ((depth, 5, 5),) + SEA[1:]
            self.tells_in_any_order(wanted, sea_of, SEA, notices, 99, day)

    def test_none_beyond_the_held_number(self):
        notices = [(5, 1, ("depth", (0, 0), 1)), (6, 1, ("depth", (0, 0), 2)), (7, 0, ("depth", (0, 0), 3))]
        for held, depth in ((0, 5), (4, 5), (5, 1), (6, 2), (7, 2), (99, 2)):
            self.tells_in_any_order(((depth, 5, 5),) + SEA[1:], sea_of, SEA, notices, held, 1)
        for held, depth in ((0, 5), (5, 5), (6, 5), (7, 3), (99, 3)):
            self.tells_in_any_order(((depth, 5, 5),) + SEA[1:], sea_of, SEA, notices, held, 0)

    def test_other_deeds_change_no_depth(self):
        notices = numbered((0, lay(1, (0, 0), sinker=1)), (0, ("gale", 9)), (1, ("seen", 1, (1, 0))), (2, ("lift", 1)))
        for day in range(4):
            self.tells(SEA, sea_of, SEA, notices, 99, day)

    def test_what_is_told_is_a_sea_for_asking_again(self):
        told = sea_of(SEA, numbered((1, ("depth", LAND, 5))), 99, 1)
        self.tells(told, sea_of, told, [], 0, 0)
        self.tells(at(LAND), mark_at, told, numbered((0, lay(1, LAND))), 1, 0, 1)

    def test_refusals(self):
        self.refuses_each(sea_of, (SEA, numbered((0, ("depth", LAND, 5))), 5, 5), refusals_of_day(SEA))


class MarkAt(Asking):
    def is_at(self, wanted, notices, day, mark=1, sea=SEA, held=99):
        self.tells_in_any_order(wanted, mark_at, sea, notices, held, day, mark)

    def test_ashore_at_first(self):
        for mark in range(1, 13):
            self.is_at(ASHORE, [], 0, mark)
            self.is_at(ASHORE, [], 400, mark)

    def test_laid_and_lifted(self):
        notices = numbered((3, lay(1, (1, 2))), (6, ("lift", 1)), (8, lay(1, (4, 0))))
        for day, wanted in ((0, ASHORE), (2, ASHORE), (3, at((1, 2))), (5, at((1, 2))), (6, ASHORE), (7, ASHORE),
                            (8, at((4, 0))), (400, at((4, 0)))):
            self.is_at(wanted, notices, day)

    def test_each_mark_by_itself(self):
        notices = [(mark, 0, lay(mark, (mark % 3, mark % 3))) for mark in range(1, 13)]
        notices.append((13, 1, ("lift", 5)))
        for mark in range(1, 13):
            self.is_at(at((mark % 3, mark % 3)), notices, 0, mark)
            self.is_at(ASHORE if mark == 5 else at((mark % 3, mark % 3)), notices, 1, mark)

    def test_gale_against_the_sinker(self):
        for sinker in range(1, 10):
            for strength in range(1, 10):
                notices = numbered((0, lay(1, (0, 0), sinker=sinker)), (1, ("gale", strength)))
                self.is_at(adrift((0, 0)) if sinker < strength else at((0, 0)), notices, 1)
                self.is_at(at((0, 0)), notices, 0)

    def test_gale_drags_off_each_mark_that_it_can(self):
        notices = numbered((0, lay(1, (0, 0), sinker=3)), (0, lay(2, (1, 1), sinker=4)), (0, lay(3, (2, 2), sinker=5)),
                           (0, lay(4, (4, 0), sinker=2)), (5, ("gale", 4)))
        for mark, wanted in ((1, adrift((0, 0))), (2, at((1, 1))), (3, at((2, 2))), (4, adrift((4, 0))), (5, ASHORE)):
            self.is_at(wanted, notices, 5, mark)

    def test_gale_ahead_of_the_laying(self):
        self.is_at(at((0, 0)), [(1, 5, ("gale", 9)), (2, 5, lay(1, (0, 0), sinker=1))], 5)
        self.is_at(at((0, 0)), [(2, 4, ("gale", 9)), (1, 5, lay(1, (0, 0), sinker=1))], 5)
        self.is_at(adrift((0, 0)), [(2, 5, ("gale", 9)), (1, 5, lay(1, (0, 0), sinker=1))], 5)

    def test_a_second_gale_finds_it_adrift(self):
        notices = numbered((0, lay(1, (0, 0), sinker=1)), (1, ("gale", 2)), (3, ("gale", 9)))
        self.is_at(("adrift", drift(SEA, (0, 0), 2)), notices, 3)
        self.is_at(("adrift", drift(SEA, (0, 0), 3)), notices, 4)

    def test_adrift_on_the_day_one_day_behind_it_and_many(self):
        notices = numbered((2, lay(1, (2, 1), sinker=1)), (4, ("gale", 2)))
        self.is_at(at((2, 1)), notices, 3)
        self.is_at(adrift((2, 1)), notices, 4)
        self.is_at(adrift((1, 1), (2, 0), (2, 1), (2, 2)), notices, 5)
        self.is_at(adrift((0, 1), (1, 0), (1, 1), (1, 2), (2, 0), (2, 1), (2, 2), (3, 0), (3, 2)), notices, 6)
        self.is_at(adrift(*cells_of_water(SEA)), notices, 400)

    def test_four_hundred_days(self):
        sea = plain_sea(16, 9)
        notices = numbered((0, lay(12, (0, 0), sinker=8)), (0, ("gale", 9)))
        self.is_at(adrift(*cells_of_water(sea)), notices, 400, 12, sea)
        self.is_at(adrift(*cells_of_water(sea)), notices, 23, 12, sea)
        self.is_at(adrift(*cells_of_water(sea)[:-1]), notices, 22, 12, sea)

    def test_by_the_depths_of_the_day_that_is_asked_for(self):
        narrow = sea_of_texts("1", "1", "1", "1")
        notices = numbered((0, lay(1, (0, 0), sinker=1)), (0, ("gale", 2)), (3, ("depth", (1, 0), 0)),
                           (5, ("depth", (1, 0), 2)))
        for day, cells in ((0, 1), (1, 2), (2, 3), (3, 1), (4, 1), (5, 4), (6, 4)):
            self.is_at(adrift(*[(column, 0) for column in range(cells)]), notices, day, sea=narrow)

    def test_water_between_land_on_the_day(self):
        narrow = sea_of_texts("1", "0", "1")
        notices = numbered((0, lay(1, (0, 0), sinker=1)), (0, ("gale", 2)), (1, ("depth", (1, 0), 5)),
                           (4, ("depth", (1, 0), 0)))
        for day, cells in ((0, 1), (1, 2), (2, 3), (3, 3), (4, 1), (9, 1)):
            self.is_at(adrift(*[(column, 0) for column in range(cells)]), notices, day, sea=narrow)

    def test_where_it_went_adrift_is_land_by_then(self):
        notices = numbered((0, lay(1, (1, 1), sinker=1)), (1, ("gale", 2)), (3, ("depth", (1, 1), 0)),
                           (5, ("depth", (1, 1), 1)))
        self.is_at(adrift(*drift(SEA, (1, 1), 1)), notices, 2)
        self.is_at(adrift((1, 1)), notices, 3)
        self.is_at(adrift((1, 1)), notices, 4)
        self.is_at(adrift(*drift(SEA, (1, 1), 4)), notices, 5)

    def test_dragged_off_land_that_came_under_it(self):
        notices = numbered((0, lay(1, (1, 1), sinker=1)), (1, ("depth", (1, 1), 0)), (2, ("gale", 2)))
        self.is_at(at((1, 1)), notices, 1)
        self.is_at(adrift((1, 1)), notices, 2)
        self.is_at(adrift((1, 1)), notices, 400)

    def test_at_its_place_whatever_depths_come(self):
        notices = numbered((0, lay(1, (1, 1))), (1, ("depth", (1, 1), 0)), (2, ("depth", (1, 1), 9)))
        for day in (0, 1, 2, 400):
            self.is_at(at((1, 1)), notices, day)

    def test_seen(self):
        notices = numbered((0, lay(1, (0, 0), sinker=1)), (0, ("gale", 2)), (3, ("seen", 1, (2, 1))))
        self.is_at(adrift(*drift(SEA, (0, 0), 2)), notices, 2)
        self.is_at(adrift((2, 1)), notices, 3)
        self.is_at(adrift((1, 1), (2, 0), (2, 1), (2, 2)), notices, 4)
        self.is_at(adrift(*drift(SEA, (2, 1), 5)), notices, 8)

    def test_seen_on_the_day_itself(self):
        notices = numbered((4, lay(1, (0, 0), sinker=1)), (4, ("gale", 2)), (4, ("seen", 1, (0, 0))))
        self.is_at(adrift((0, 0)), notices, 4)
        self.is_at(adrift((0, 0), (0, 1), (1, 0)), notices, 5)

    def test_seen_again_on_one_day_and_later(self):
        notices = numbered((0, lay(1, (0, 0), sinker=1)), (0, ("gale", 2)), (2, ("seen", 1, (1, 1))),
                           (2, ("seen", 1, (1, 0))), (5, ("seen", 1, (4, 1))))
        self.is_at(adrift((1, 1)), notices, 2)
        self.is_at(adrift(*drift(SEA, (1, 1), 2)), notices, 4)
        self.is_at(adrift(*drift(SEA, (1, 1), 3)), notices, 5)
        notices[-1] = (5, 5, ("seen", 1, (2, 2)))
        self.is_at(adrift((2, 2)), notices, 5)
        self.is_at(adrift(*drift(SEA, (2, 2), 1)), notices, 6)

    def test_seen_on_a_cell_that_is_land_later(self):
        notices = numbered((0, lay(1, (0, 0), sinker=1)), (0, ("gale", 2)), (2, ("seen", 1, (1, 1))),
                           (4, ("depth", (1, 1), 0)))
        self.is_at(adrift(*drift(SEA, (1, 1), 1)), notices, 3)
        self.is_at(adrift((1, 1)), notices, 4)

    def test_void_notices_do_nothing(self):
        notices = numbered((0, lay(1, (0, 0), sinker=9)), (1, lay(1, (1, 1), sinker=1)), (2, ("gale", 9)),
                           (2, ("seen", 1, (2, 2))), (2, ("lift", 2)), (3, lay(2, LAND)))
        self.is_at(at((0, 0)), notices, 400)
        self.is_at(ASHORE, notices, 400, 2)

    def test_laid_anew_with_another_sinker(self):
        notices = numbered((0, lay(1, (0, 0), sinker=1)), (1, ("lift", 1)), (2, lay(1, (1, 1), sinker=6)),
                           (3, ("gale", 6)), (4, ("gale", 7)))
        self.is_at(at((1, 1)), notices, 3)
        self.is_at(adrift((1, 1)), notices, 4)

    def test_lifted_adrift_and_laid_anew(self):
        notices = numbered((0, lay(1, (0, 0), sinker=1)), (1, ("gale", 2)), (3, ("lift", 1)), (4, lay(1, (4, 2))))
        self.is_at(adrift(*drift(SEA, (0, 0), 1)), notices, 2)
        self.is_at(ASHORE, notices, 3)
        self.is_at(at((4, 2)), notices, 4)
        self.is_at(at((4, 2)), notices, 50)

    def test_to_the_held_number(self):
        notices = [(10, 0, lay(1, (0, 0), sinker=1)), (20, 1, ("gale", 2)), (30, 1, ("seen", 1, (0, 0))),
                   (15, 5, ("lift", 1)), (40, 2, ("seen", 1, (0, 1)))]
        for held, day, wanted in ((0, 400, ASHORE), (9, 400, ASHORE), (10, 400, at((0, 0))), (14, 6, at((0, 0))),
                                  (15, 4, at((0, 0))), (15, 5, ASHORE), (19, 2, at((0, 0))), (20, 1, adrift((0, 0))),
                                  (30, 2, adrift((0, 0), (0, 1), (1, 0))), (39, 2, adrift((0, 0), (0, 1), (1, 0))),
                                  (40, 2, adrift((0, 1))), (99, 2, adrift((0, 1))), (99, 5, ASHORE)):
            self.is_at(wanted, notices, day, held=held)

    def test_later_days_change_nothing(self):
        notices = numbered((3, lay(1, (1, 1), sinker=1)), (5, ("gale", 9)), (5, ("depth", (1, 2), 0)))
        self.is_at(at((1, 1)), notices, 4)
        self.is_at(at((1, 1)), notices[:1], 400)

    def test_refusals(self):
        no_marks = no_wholes(range(1, 13)) + [0, 13, -1, True, False, "1", (1,), [1], {1: 1}]
        refusals = refusals_of_day(SEA) + ((4, NoMark, no_marks),)
        self.refuses_each(mark_at, (SEA, numbered((0, lay(1, (0, 0)))), 5, 5, 1), refusals)

    def test_no_mark_whatever_is_there(self):
        notices = numbered((0, lay(1, (0, 0), sinker=1)), (1, ("gale", 9)))
        for thing in WHATEVER:
            if type(thing) is not int or not 1 <= thing <= 12:
                self.refuses(NoMark, mark_at, SEA, notices, 99, 9, thing)

    def test_what_is_handed_in_is_not_kept(self):
        notices = numbered((0, lay(1, (0, 0))))
        self.assertEqual(mark_at(SEA, notices, 99, 9, 1), at((0, 0)))
        notices.append((2, 0, ("lift", 1)))
        self.assertEqual(mark_at(SEA, notices, 99, 9, 1), ASHORE)
        notices.pop()
        self.assertEqual(mark_at(SEA, notices, 99, 9, 1), at((0, 0)))


class Standing(Asking):
    def stands(self, wanted, notices, day, held=99):
        self.tells_in_any_order(wanted, standing, SEA, notices, held, day)

    def test_none(self):
        self.stands([], [], 0)
        self.stands([], numbered((1, lay(1, (0, 0)))), 0)

    def test_rising_with_cell_and_look(self):
        notices = numbered((0, lay(12, (0, 0), 2, 1, 3, False)), (0, lay(3, (4, 2), 0, 2, 4, True)),
                           (0, lay(10, (1, 2), 1, 0, 5, True)), (1, lay(1, (0, 0), 0, 0, 9, False)))
        first = [(3, (4, 2), (0, 2, True)), (10, (1, 2), (1, 0, True)), (12, (0, 0), (2, 1, False))]
        self.stands(first, notices, 0)
        self.stands([(1, (0, 0), (0, 0, False))] + first, notices, 1)

    def test_only_marks_at_a_place(self):
        notices = numbered((0, lay(1, (0, 0), sinker=1)), (0, lay(2, (1, 1), sinker=9)), (0, lay(3, (2, 2), sinker=9)),
                           (1, ("gale", 5)), (2, ("lift", 3)), (3, ("seen", 1, (1, 1))))
        look = (0, 0, True)
        one, two, three = (1, (0, 0), look), (2, (1, 1), look), (3, (2, 2), look)
        self.stands([one, two, three], notices, 0)
        self.stands([two, three], notices, 1)
        self.stands([two], notices, 2)
        self.stands([two], notices, 400)

    def test_laid_anew_with_another_look(self):
        notices = numbered((0, lay(1, (0, 0), 0, 0, 1, True)), (1, ("lift", 1)), (2, lay(1, (0, 1), 2, 1, 1, False)))
        self.stands([(1, (0, 0), (0, 0, True))], notices, 0)
        self.stands([], notices, 1)
        self.stands([(1, (0, 1), (2, 1, False))], notices, 2)

    def test_on_land_that_came_later(self):
        self.stands([(1, (0, 0), (0, 0, True))], numbered((0, lay(1, (0, 0))), (1, ("depth", (0, 0), 0))), 5)

    def test_to_the_held_number(self):
        notices = [(7, 0, lay(1, (0, 0))), (9, 0, lay(2, (0, 0)))]
        look = (0, 0, True)
        self.stands([], notices, 0, held=6)
        self.stands([(1, (0, 0), look)], notices, 0, held=8)
        self.stands([(1, (0, 0), look), (2, (0, 0), look)], notices, 0, held=9)

    def test_refusals(self):
        self.refuses_each(standing, (SEA, numbered((0, lay(1, (0, 0)))), 5, 5), refusals_of_day(SEA))


class Slowly:
    """All that the held notices tell, gone through day by day for one day: another way than the program's."""

    def __init__(self, sea, notices, held, day):
        self.day = 0
        self.depths = {(c, r): depth for c, column in enumerate(sea) for r, depth in enumerate(column)}
        self.marks = {mark: ASHORE for mark in range(1, 13)}
        self.void = []
        held_notices = {notice for notice in notices if notice[0] <= held}
        for self.day in range(day + 1):
            for notice in sorted(notice for notice in held_notices if notice[1] == self.day):
                if not self.done(notice[2]):
                    self.void.append(notice[0])
        self.void.sort()

    def sea(self):
        columns = max(self.depths)[0] + 1
        return tuple(
            tuple(self.depths[cell] for cell in sorted(self.depths) if cell[0] == column) for column in range(columns)
        )

    def where(self, mark):
        state = self.marks[mark]
        if state[0] == "adrift":
            return ("adrift", drift_by_steps(self.sea(), state[1], self.day - state[2]))
        return state[:2]

    def done(self, deed):
        word, *parts = deed
        if word == "depth":
            self.depths[parts[0]] = parts[1]
        elif word == "gale":
            for mark, state in self.marks.items():
                if state[0] == "at" and state[2] < parts[0]:
                    self.marks[mark] = ("adrift", state[1], self.day, state[3])
        elif word == "lift":
            there = self.marks[parts[0]] != ASHORE
            self.marks[parts[0]] = ASHORE
            return there
        elif word == "seen":
            where = self.where(parts[0])
            if where[0] != "adrift" or parts[1] not in where[1]:
                return False
            self.marks[parts[0]] = ("adrift", parts[1], self.day, self.marks[parts[0]][3])
        else:
            mark, cell, shape, colour, sinker, lit = parts
            if self.marks[mark] != ASHORE or self.depths[cell] == 0:
                return False
            self.marks[mark] = ("at", cell, sinker, (shape, colour, lit))
        return True


class Mixed(Asking):
    def test_against_a_slow_reckoning(self):
        chance = random.Random(22)
        seen_words = set()
        for repeat in range(150):
            sea = mixed_sea(chance)
            notices = mixed_notices(chance, sea)
            held = chance.choice((99, 99, chance.randint(0, 99)))
            self.tells(Slowly(sea, notices, held, 400).void, void, sea, notices, held)
            for day in (0, 1, 2, 3, 4, 5, 6, 8, 400):
                wanted = Slowly(sea, notices, held, day)
                self.tells(wanted.sea(), sea_of, sea, notices, held, day)
                at_places = []
                for mark in (1, 2, 3):
                    self.tells(wanted.where(mark), mark_at, sea, notices, held, day, mark)
                    seen_words.add(wanted.where(mark)[0])
                    if wanted.marks[mark][0] == "at":
                        at_places.append((mark, wanted.marks[mark][1], wanted.marks[mark][3]))
                self.tells(at_places, standing, sea, notices, held, day)
        self.assertEqual(seen_words, {"ashore", "at", "adrift"})


if __name__ == "__main__":
    unittest.main()
