"""Points 20 and 21: notices."""

import unittest

from asking import FAR, WHATEVER, Asking, plain_sea, sea_of_texts

from laidmarks.errors import NoSea
from laidmarks.notices import are_notices

# Three columns of two rows, land among them: a notice may name land.
SEA = sea_of_texts("50", "35", "19")
CELLS = ((0, 0), (0, 1), (1, 0), (1, 1), (2, 0), (2, 1))
NO_CELLS = (
    (-1, 0), (3, 0), (0, -1), (0, 2), (2, 2), (3, 1), (FAR, 0), (True, 0), (0, False), (0, 0, 0), (0,), (), [0, 0],
    ("0", 0), (0, None), ([0], 0), "0.0", 0, None, True, {0: 0, 1: 0},
)
NO_TRUTHS = (0, 1, None, "", "True", "lit", (), (True,), [], [False], {})

MARK = ("whole", 1, 12)
CELL = ("cell",)
SHAPE = COLOUR = ("whole", 0, 2)
SINKER = STRENGTH = ("whole", 1, 9)
DEPTH = ("whole", 0, 9)
LIT = ("truth",)
# Of each deed an example, and what each of its parts may be.
DEEDS = (
    (("lay", 3, (2, 1), 0, 1, 5, True), (MARK, CELL, SHAPE, COLOUR, SINKER, LIT)),
    (("lift", 3), (MARK,)),
    (("gale", 6), (STRENGTH,)),
    (("seen", 3, (1, 0)), (MARK, CELL)),
    (("depth", (1, 1), 0), (CELL, DEPTH)),
)


def good_parts(part):
    if part == CELL:
        return CELLS
    if part == LIT:
        return (True, False)
    return tuple(range(part[1], part[2] + 1))


def wrong_parts(part):
    if part == CELL:
        return NO_CELLS
    if part == LIT:
        return NO_TRUTHS
    low, high = part[1:]
    return (low - 1, high + 1, FAR, -FAR, True, False, None, str(low), (low,), [low], {low: low}, (0, 0))


def with_part(deed, at, part):
    return deed[:at] + (part,) + deed[at + 1:]


class Deeds(Asking):
    def says(self, wanted, deed):
        self.tells(wanted, are_notices, SEA, [(1, 0, deed)])

    def test_examples(self):
        for deed, parts in DEEDS:
            self.says(True, deed)

    def test_each_part_within_its_bounds(self):
        for deed, parts in DEEDS:
            for at, part in enumerate(parts, start=1):
                for good in good_parts(part):
                    self.says(True, with_part(deed, at, good))

    def test_each_part_beyond_its_bounds_or_of_another_kind(self):
        for deed, parts in DEEDS:
            for at, part in enumerate(parts, start=1):
                for wrong in wrong_parts(part):
                    self.says(False, with_part(deed, at, wrong))

    def test_words_that_are_no_deed(self):
        for deed, parts in DEEDS:
            for word in ("", "laid", "LAY", "Lift", "lay ", " gale", "storm", "see", "depths", "take_in", deed[0] * 2):
                self.says(False, with_part(deed, 0, word))

    def test_things_that_are_no_word(self):
        for deed, parts in DEEDS:
            for word in (0, 1, True, None, [], ["lay"], (), (deed[0],), [deed[0]], {}, {deed[0]: 1}):
                self.says(False, with_part(deed, 0, word))

    def test_the_word_of_another_deed(self):
        for deed, parts in DEEDS:
            for other, other_parts in DEEDS:
                # A mark from 1 to 9 may be a strength as well, so "lift" and "gale" can't be told apart by parts.
                if other[0] != deed[0] and {deed[0], other[0]} != {"lift", "gale"}:
                    self.says(False, with_part(deed, 0, other[0]))

    def test_a_thing_more_or_fewer(self):
        for deed, parts in DEEDS:
            for more in (0, 1, True, None, (0, 0), "lay"):
                self.says(False, deed + (more,))
                self.says(False, (more,) + deed)
            for at in range(len(deed)):
                self.says(False, deed[:at] + deed[at + 1:])
            self.says(False, deed[:1])
        self.says(False, ())

    def test_lists_for_tuples(self):
        for deed, parts in DEEDS:
            self.says(False, list(deed))
            self.says(False, [deed])
            self.says(False, (deed,))
            self.says(False, {at: part for at, part in enumerate(deed)})

    def test_things_of_other_kinds(self):
        for thing in WHATEVER:
            self.says(False, thing)

    def test_cells_by_the_sea(self):
        great = plain_sea(16, 9)
        for column, row, wanted in ((15, 8, True), (0, 8, True), (15, 0, True), (16, 8, False), (15, 9, False)):
            cell = (column, row)
            for deed in (("lay", 1, cell, 0, 0, 1, False), ("seen", 1, cell), ("depth", cell, 9)):
                self.tells(wanted, are_notices, great, [(1, 0, deed)])
                self.tells(False, are_notices, SEA, [(1, 0, deed)])
        self.tells(True, are_notices, sea_of_texts("0", "0"), [(1, 0, ("lay", 1, (1, 0), 0, 0, 1, False))])
        self.tells(False, are_notices, sea_of_texts("00", "00"), [(1, 0, ("lay", 1, (2, 0), 0, 0, 1, False))])


class OneNotice(Asking):
    def says(self, wanted, thing):
        self.tells(wanted, are_notices, SEA, [thing])

    def test_numbers(self):
        for number in range(1, 100):
            self.says(True, (number, 5, ("gale", 3)))
        for number in (0, 100, -1, FAR, True, False, None, "1", (1,), [1], {}):
            self.says(False, (number, 5, ("gale", 3)))

    def test_days(self):
        for day in range(0, 401):
            self.says(True, (1, day, ("lift", 3)))
        for day in (-1, 401, -FAR, FAR, True, False, None, "0", (0,), [0], {}):
            self.says(False, (1, day, ("lift", 3)))

    def test_a_thing_more_or_fewer(self):
        notice = (1, 0, ("gale", 3))
        for thing in ((), notice[:1], notice[:2], notice[1:], notice + (0,), notice + (("gale", 3),), (0,) + notice):
            self.says(False, thing)
        self.says(False, (1, 0, "gale", 3))

    def test_lists_for_tuples(self):
        self.says(False, [1, 0, ("gale", 3)])
        self.says(False, [(1, 0, ("gale", 3))])
        self.says(False, ((1, 0, ("gale", 3)),))
        self.says(False, {0: 1, 1: 0, 2: ("gale", 3)})

    def test_things_of_other_kinds(self):
        for thing in WHATEVER:
            self.says(False, thing)


def many_notices(many):
    return [(number, number * 7 % 401, ("gale", number % 9 + 1)) for number in range(many, 0, -1)]


class Notices(Asking):
    def test_none(self):
        self.tells(True, are_notices, SEA, [])

    def test_how_many(self):
        for many in (1, 2, 29, 30):
            self.tells(True, are_notices, SEA, many_notices(many))
        for many in (31, 32, 60):
            self.tells(False, are_notices, SEA, many_notices(many))

    def test_each_perhaps_several_times(self):
        for deed, parts in DEEDS:
            notice = (9, 31, deed)
            self.tells(True, are_notices, SEA, [notice, (1, 1, ("gale", 1)), notice, notice])
            self.tells(True, are_notices, SEA, [notice] * 30)
            self.tells(False, are_notices, SEA, [notice] * 31)

    def test_no_two_unlike_ones_with_one_number(self):
        notice = (9, 31, ("lay", 3, (2, 1), 0, 1, 5, True))
        for other in (
            (9, 30, notice[2]),
            (9, 31, ("lay", 4, (2, 1), 0, 1, 5, True)),
            (9, 31, ("lay", 3, (2, 0), 0, 1, 5, True)),
            (9, 31, ("lay", 3, (2, 1), 1, 1, 5, True)),
            (9, 31, ("lay", 3, (2, 1), 0, 2, 5, True)),
            (9, 31, ("lay", 3, (2, 1), 0, 1, 6, True)),
            (9, 31, ("lay", 3, (2, 1), 0, 1, 5, False)),
            (9, 31, ("lift", 3)),
            (9, 31, ("gale", 3)),
        ):
            self.tells(True, are_notices, SEA, [other])
            self.tells(False, are_notices, SEA, [notice, other])
            self.tells(False, are_notices, SEA, [other, notice])
            self.tells(False, are_notices, SEA, [notice, (1, 0, ("lift", 1)), notice, other])
            self.tells(True, are_notices, SEA, [notice, (10,) + other[1:]])

    def test_any_order_of_numbers_and_days(self):
        notices = [(5, 10, ("lift", 1)), (3, 400, ("lift", 1)), (99, 0, ("gale", 1)), (4, 10, ("depth", (0, 0), 0))]
        self.tells(True, are_notices, SEA, notices)
        self.tells(True, are_notices, SEA, notices[::-1])

    def test_what_can_not_be_done_is_a_notice_all_the_same(self):
        on_land = (2, 5, ("lay", 1, (0, 1), 0, 0, 1, True))
        never_laid = (1, 5, ("lift", 12))
        never_adrift = (3, 0, ("seen", 7, (0, 1)))
        self.tells(True, are_notices, SEA, [on_land, never_laid, never_adrift])

    def test_one_that_is_none_anywhere(self):
        for at in range(5):
            for wrong in (None, [], (50, 0, ("gale", 0)), (0, 0, ("gale", 1)), [50, 0, ("gale", 1)]):
                notices = many_notices(4)
                notices.insert(at, wrong)
                self.tells(False, are_notices, SEA, notices)

    def test_other_kinds_for_the_list(self):
        notice = (1, 0, ("gale", 3))
        for thing in ((notice,), (), notice, {1: notice}, {0: notice}, {}, "1 0 gale 3", None, True, False, 0, 1):
            self.tells(False, are_notices, SEA, thing)
        for thing in WHATEVER:
            self.tells(thing == [], are_notices, SEA, thing)

    def test_no_sea_whatever_the_other_thing_is(self):
        no_seas = WHATEVER + (plain_sea(1, 2), plain_sea(17, 2), ((True,), (1,)), [list(column) for column in SEA])
        for thing in no_seas:
            for other in ([], many_notices(30), many_notices(31), (), None, [None], 1, "a", {}):
                self.refuses(NoSea, are_notices, thing, other)
        for other in WHATEVER:
            self.refuses(NoSea, are_notices, list(SEA), other)

    def test_what_is_handed_in_is_not_kept(self):
        notices = many_notices(29)
        self.assertIs(are_notices(SEA, notices), True)
        notices.append((1, 400, ("lift", 1)))
        self.assertIs(are_notices(SEA, notices), False)
        notices[-1] = (30, 400, ("lift", 1))
        self.assertIs(are_notices(SEA, notices), True)
        self.assertIs(are_notices(SEA, [(30, 0, ("gale", 9))]), True)


if __name__ == "__main__":
    unittest.main()
