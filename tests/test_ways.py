"""Points 50 to 54: ways, bars and gates."""

import itertools
import random
import unittest

from asking import FAR, WHATEVER, Asking, lay, no_wholes, numbered, plain_sea

from laidmarks.channels import channel_of
from laidmarks.errors import NoChannel, NoNumber
from laidmarks.ways import bar_of, gates, is_bar, is_way, least_way, many_ways, straightest, way_at

FULL = tuple(range(9))
WIDEST = (FULL,) * 16
NARROW = ((0,),) * 16
NO_CHANNELS = tuple(thing for thing in WHATEVER if thing != ((), ())) + (
    ((0,),), ((),), ((0,),) * 17, ((),) * 17, (FULL,) * 17,
    ((1, 0), (0,)), ((0,), (3, 3)), ((0, 2, 1), (0,)), ((0, 1, 1), (0,)), ((0,), (8, 0)),
    ((-1,), (0,)), ((0,), (9,)), ((0,), (-1, 0)), ((7, 8, 9), (0,)), ((FAR,), (0,)), ((0,), (-FAR,)),
    [(0,), (0,)], ([0], [0]), ((0,), [0]), ([0], (0,)), [[0], [0]], ((0,), []), ([], ()),
    ((True,), (0,)), ((0,), (False,)), ((0, True), (0,)), ((None,), (0,)), (("0",), (0,)), (((0,),), (0,)),
    (([],), (0,)), (({},), (0,)), ("0", "0"), ((0,), "0"), ((0,), 0), ((0,), None), ((0,), {0: 0}),
    {0: (0,), 1: (0,)}, "0/0", (0, 0),
)


def ways_one_by_one(channel):
    """All ways, rising."""
    return [
        way for way in itertools.product(*channel)
        if all(abs(row - ahead) <= 1 for ahead, row in zip(way, way[1:]))
    ]


def bends(way):
    return sum(1 for ahead, row in zip(way, way[1:]) if ahead != row)


def mixed_channels():
    chance = random.Random(50)
    for repeat in range(400):
        columns = chance.randint(2, 6)
        most_rows = chance.randint(1, 9 if columns < 5 else 5)
        yield tuple(
            tuple(sorted(chance.sample(range(most_rows), chance.choice((most_rows, chance.randint(0, most_rows))))))
            for column in range(columns)
        )


class Channels(Asking):
    def test_no_channel_is_refused_of_every_function(self):
        for thing in NO_CHANNELS:
            for call in (least_way, many_ways, straightest, bar_of, gates):
                self.refuses(NoChannel, call, thing)
            for other in (0, FAR, None, True, (0, 0), ((),), [], {}):
                self.refuses(NoChannel, is_way, thing, other)
                self.refuses(NoChannel, is_bar, thing, other)
                self.refuses(NoChannel, way_at, thing, other)

    def test_two_and_sixteen_columns(self):
        for channel in (((0,), (0,)), ((8,), (8,)), ((), ()), (FULL, FULL), NARROW, WIDEST, ((),) * 16, ((8,),) * 15):
            self.assertIsInstance(many_ways(channel), int)
            self.assertIs(is_way(channel, None), False)
            self.assertIs(is_bar(channel, None), False)

    def test_what_the_channel_of_a_day_tells_is_one(self):
        told = channel_of(plain_sea(3, 3), numbered((0, lay(1, (1, 1), 2))), 99, 0, 3, False)
        self.tells(8, many_ways, told)
        told = channel_of(plain_sea(16, 9, 0), [], 0, 0, 1, True)
        self.tells(((),), bar_of, told)


class IsWay(Asking):
    def test_ways(self):
        channel = ((0, 1), (1, 2), (2, 4))
        for way in itertools.product(range(-1, 6), repeat=3):
            self.tells(way in ((0, 1, 2), (1, 1, 2), (1, 2, 2)), is_way, channel, way)

    def test_a_row_more_or_fewer(self):
        channel = ((0,), (0,), (0,))
        for many in range(6):
            self.tells(many == 3, is_way, channel, (0,) * many)
        self.tells(True, is_way, NARROW, (0,) * 16)
        self.tells(False, is_way, NARROW, (0,) * 15)
        self.tells(False, is_way, NARROW, (0,) * 17)

    def test_a_row_that_its_column_has_not(self):
        self.tells(True, is_way, ((1, 3), (2,)), (1, 2))
        self.tells(False, is_way, ((1, 3), (2,)), (2, 2))
        self.tells(False, is_way, ((1, 3), (2,)), (1, 1))
        self.tells(False, is_way, ((), (2,)), (2, 2))
        self.tells(False, is_way, (FULL, FULL), (9, 8))
        self.tells(False, is_way, (FULL, FULL), (0, -1))

    def test_unlike_by_at_most_one(self):
        for ahead, row in itertools.product(FULL, FULL):
            self.tells(abs(ahead - row) <= 1, is_way, (FULL, FULL), (ahead, row))
            self.tells(abs(ahead - row) <= 1, is_way, (FULL, FULL, FULL), (row, row, ahead))

    def test_truths_are_no_rows(self):
        for thing in ((True, 1), (1, True), (0, False), (False, 0), (False, True)):
            self.tells(False, is_way, ((0, 1), (0, 1)), thing)

    def test_other_kinds(self):
        channel = ((0, 1), (0, 1))
        for thing in ([0, 0], [0, 1], ((0,), (0,)), "00", (0, "0"), (0, None), (0, [0]), (0, (0,)), (0, {}),
                      {0: 0, 1: 0}):
            self.tells(False, is_way, channel, thing)
        for thing in WHATEVER:
            self.tells(False, is_way, channel, thing)
            self.tells(False, is_way, ((), ()), thing)

    def test_mixed(self):
        chance = random.Random(51)
        for channel in mixed_channels():
            ways = ways_one_by_one(channel)
            for way in ways[:5] + ways[-5:]:
                self.tells(True, is_way, channel, way)
            for repeat in range(5):
                way = tuple(chance.randint(0, 8) for column in channel)
                self.tells(way in ways, is_way, channel, way)


class WaysInOrder(Asking):
    def test_one_by_one_where_there_are_few(self):
        for channel in mixed_channels():
            ways = ways_one_by_one(channel)
            self.tells(ways[0] if ways else None, least_way, channel)
            self.tells(len(ways), many_ways, channel)
            places = range(len(ways)) if len(ways) <= 40 else (0, 1, 2, len(ways) // 2, len(ways) - 2, len(ways) - 1)
            for place in places:
                self.tells(ways[place], way_at, channel, place)
            for place in (len(ways), len(ways) + 1, -1, FAR, -FAR):
                self.refuses(NoNumber, way_at, channel, place)

    def test_all_of_a_small_channel(self):
        channel = ((0, 2), (1, 2, 3), (0, 1, 4))
        ways = [(0, 1, 0), (0, 1, 1), (2, 1, 0), (2, 1, 1), (2, 2, 1), (2, 3, 4)]
        self.tells((0, 1, 0), least_way, channel)
        self.tells(6, many_ways, channel)
        for place, way in enumerate(ways):
            self.tells(way, way_at, channel, place)
        self.refuses(NoNumber, way_at, channel, 6)

    def test_the_least_is_no_greedy_choice(self):
        self.tells((2, 3), least_way, ((0, 2), (3, 8)))
        self.tells((1, 2, 3, 4), least_way, ((0, 1), (0, 2), (0, 3), (4,)))

    def test_one_way_alone(self):
        self.tells((0,) * 16, least_way, NARROW)
        self.tells(1, many_ways, NARROW)
        self.tells((0,) * 16, way_at, NARROW, 0)
        self.refuses(NoNumber, way_at, NARROW, 1)

    def test_none(self):
        for channel in (((), ()), ((0,), ()), ((), (0,)), ((0,), (2,)), ((0, 1), (), (0, 1)), (FULL,) * 15 + ((),),
                        ((0,), (1,), (3,)), ((0,), (2,), (2,)), ((8,), (0,))):
            self.tells(None, least_way, channel)
            self.tells(0, many_ways, channel)
            self.tells(None, straightest, channel)
            self.tells(None, gates, channel)
            for place in (0, 1, -1, None, True):
                self.refuses(NoNumber, way_at, channel, place)

    def test_millions(self):
        counts = [1] * 9
        for column in range(15):
            counts = [sum(counts[max(0, row - 1):row + 2]) for row in range(9)]
        many = sum(counts)
        self.assertGreater(many, 10 ** 7)
        self.tells(many, many_ways, WIDEST)
        self.tells((0,) * 16, least_way, WIDEST)
        self.tells((0,) * 16, way_at, WIDEST, 0)
        self.tells((0,) * 15 + (1,), way_at, WIDEST, 1)
        self.tells((0,) * 14 + (1, 0), way_at, WIDEST, 2)
        self.tells((8,) * 16, way_at, WIDEST, many - 1)
        self.tells((8,) * 15 + (7,), way_at, WIDEST, many - 2)
        self.tells((1,) + (0,) * 15, way_at, WIDEST, counts[0])
        self.tells((4, 3) + (2, 1) + (0,) * 12, way_at, WIDEST, sum(counts[:4]))
        for place in (many, many + 1, FAR, -1, -many):
            self.refuses(NoNumber, way_at, WIDEST, place)

    def test_places_rise_among_millions(self):
        many = many_ways(WIDEST)
        for place in range(0, many - 1, many // 50):
            way, other = way_at(WIDEST, place), way_at(WIDEST, place + 1)
            self.assertTrue(is_way(WIDEST, way) and is_way(WIDEST, other))
            self.assertLess(way, other)

    def test_other_kinds_of_places(self):
        for place in no_wholes(range(FAR)) + [True, False, "0", (0,), [0], {0: 0}]:
            self.refuses(NoNumber, way_at, WIDEST, place)
            self.refuses(NoNumber, way_at, NARROW, place)


class Straightest(Asking):
    def test_mixed(self):
        for channel in mixed_channels():
            ways = ways_one_by_one(channel)
            wanted = min(ways, key=lambda way: (bends(way), way)) if ways else None
            self.tells(wanted, straightest, channel)

    def test_fewest_bends_ahead_of_the_least(self):
        self.tells((1, 1, 1), straightest, ((0, 1), (1, 2), (0, 1)))
        self.tells((2, 2, 2, 2), straightest, ((0, 2), (0, 2), (1, 2), (2,)))

    def test_of_several_the_least(self):
        self.tells((0,) * 16, straightest, WIDEST)
        self.tells((0, 0, 0), straightest, ((0, 1), (0, 1), (0, 1)))
        self.tells((0, 0, 1), straightest, ((0,), (0, 1), (1,)))
        self.tells((1, 0, 0), straightest, ((1,), (0, 1), (0,)))
        self.tells((1, 1, 0), straightest, ((1,), (1,), (0, 2)))

    def test_bends_that_must_be(self):
        self.tells(FULL + (8,), straightest, tuple((row,) for row in FULL) + ((7, 8),))
        self.tells((0, 1) * 8, straightest, ((0,), (1,)) * 8)

    def test_of_the_greatest_channels(self):
        channel = (FULL,) * 15 + ((8,),)
        self.tells((8,) * 16, straightest, channel)
        channel = ((0,),) + (FULL,) * 14 + ((8,),)
        self.tells((0,) * 8 + (1, 2, 3, 4, 5, 6, 7, 8), straightest, channel)


class Bars(Asking):
    def test_the_told_bar(self):
        for channel, wanted in (
            (((), ()), ((),)),
            (((), (0,)), ((),)),
            (((0,), ()), ((0,), ())),
            (((0, 3), (5, 6)), ((0, 3), ())),
            (((0, 3), (1, 2, 5), (4, 5)), ((0, 3), (1, 2), ())),
            (((0, 8), (), (0, 8)), ((0, 8), ())),
            ((FULL,) * 15 + ((),), (FULL,) * 15 + ((),)),
            ((FULL,) * 14 + ((0,), (2,)), (FULL,) * 14 + ((0,), ())),
        ):
            self.tells(wanted, bar_of, channel)
            self.tells(True, is_bar, channel, wanted)

    def test_none_where_there_is_a_way(self):
        for channel in (NARROW, WIDEST, ((0,), (1,)), ((0, 5), (6, 8), (7,))):
            self.tells(None, bar_of, channel)
            self.tells(False, is_bar, channel, ((),))
            self.tells(False, is_bar, channel, channel)

    def test_rows_more_than_need_be(self):
        channel = ((0, 3), (1, 5), (4, 8))
        self.tells(((0, 3), (1,), ()), bar_of, channel)
        self.tells(True, is_bar, channel, ((0, 3), (1, 2), ()))
        self.tells(True, is_bar, channel, ((0, 1, 2, 3), (0, 1, 2), ()))
        self.tells(True, is_bar, channel, ((0, 3), (1, 6), ()))
        self.tells(True, is_bar, channel, ((0, 3, 8), (0, 1, 2, 6), ()))

    def test_rows_more_that_lead_on(self):
        channel = ((0, 3), (1, 5), (4, 8))
        self.tells(False, is_bar, channel, ((0, 3), (1, 5), ()))
        self.tells(False, is_bar, channel, ((0, 3), (1, 3), ()))
        self.tells(False, is_bar, channel, ((0, 3, 6), (1,), ()))
        self.tells(False, is_bar, channel, ((0, 3), (1, 8), ()))

    def test_a_row_fewer(self):
        channel = ((0, 3), (1, 2), (4, 8))
        self.tells(True, is_bar, channel, ((0, 3), (1, 2), ()))
        for thing in (((0,), (1, 2), ()), ((3,), (1, 2), ()), ((0, 3), (1,), ()), ((0, 3), (2,), ()),
                      ((), (1, 2), ()), ((0, 3), (), ())):
            self.tells(False, is_bar, channel, thing)

    def test_a_column_more_or_fewer(self):
        channel = ((0, 3), (1, 2), (4, 8), (5,))
        self.tells(True, is_bar, channel, ((0, 3), (1, 2), ()))
        for thing in (((0, 3), (1, 2)), ((0, 3), ()), ((0, 3),), ((),), (), ((0, 3), (1, 2), (), ()),
                      ((0, 3), (1, 2), (), (5,)), ((0, 3), (1, 2), (4,)), ((0, 3), (), (1, 2), ())):
            self.tells(False, is_bar, channel, thing)
        self.tells(True, is_bar, channel, ((0, 3), (1, 2), (0,), ()))
        self.tells(False, is_bar, channel, ((0, 3), (1, 2), (0,), (0,), ()))
        self.tells(True, is_bar, ((0,), ()), ((0,), ()))
        self.tells(False, is_bar, ((0,), ()), ((0,), (5,), ()))
        self.tells(False, is_bar, ((), ()), ((), ()))
        self.tells(False, is_bar, ((), ()), ((), (), ()))

    def test_of_one_column(self):
        self.tells(True, is_bar, ((), (0,)), ((),))
        self.tells(False, is_bar, ((0,), ()), ((),))
        self.tells(True, is_bar, ((), ()), ((4,), ()))
        self.tells(False, is_bar, ((), (5,)), ((4,), ()))

    def test_of_sixteen_columns(self):
        channel = (FULL,) * 15 + ((),)
        self.tells(True, is_bar, channel, channel)
        self.tells(False, is_bar, channel, channel[:15])
        self.tells(False, is_bar, channel, (FULL,) * 16 + ((),))
        self.tells(False, is_bar, channel, (FULL,) * 14 + ((0, 1, 2, 3, 4, 5, 6, 7), ()))

    def test_other_kinds(self):
        channel = ((0, 1), ())
        self.tells(True, is_bar, channel, ((0, 1), ()))
        for thing in ([(0, 1), ()], ((0, 1), []), ([0, 1], ()), ((1, 0), ()), ((0, 1, 1), ()), ((0, 1, 9), ()),
                      ((-1, 0, 1), ()), ((False, True), ()), ((0, True), ()), ((0, 1), None), ((0, 1), 0), ((0, 1), ""),
                      ((0, 1), {}), ((0, 1, "2"), ()), ((0, 1, None), ()), ((0, 1, (2,)), ()), ((0, 1, [2]), ()),
                      ("01", ""), {0: (0, 1), 1: ()}, (0, 1)):
            self.tells(False, is_bar, channel, thing)
        for thing in WHATEVER:
            self.tells(False, is_bar, channel, thing)
            self.tells(thing == ((),), is_bar, ((), ()), thing)

    def test_every_thing_of_small_form(self):
        rows = ((), (0,), (1,), (2,), (0, 1), (0, 2), (1, 2), (0, 1, 2))
        chance = random.Random(53)
        for channel in itertools.product(rows, repeat=3):
            things = [thing for many in (1, 2, 3) for thing in itertools.product(rows, repeat=many)]
            for thing in chance.sample(things, 60) + [((),)]:
                self.tells(self.bars_by_words(channel, thing), is_bar, channel, thing)

    def bars_by_words(self, channel, thing):
        if thing[-1] != () or () in thing[:-1]:
            return False
        for column, rows in enumerate(thing):
            for row in channel[column]:
                needed = column == 0 or any(abs(row - ahead) <= 1 for ahead in thing[column - 1])
                if needed and row not in rows:
                    return False
        return True

    def test_there_is_a_bar_just_where_there_is_no_way(self):
        for channel in mixed_channels():
            ways = ways_one_by_one(channel)
            told = bar_of(channel)
            self.assertEqual(told is None, bool(ways))
            if not ways:
                reached = [tuple(sorted({way[-1] for way in ways_one_by_one(channel[:many])}))
                           for many in range(1, len(channel) + 1)]
                wanted = tuple(reached[:reached.index(()) + 1])
                self.tells(wanted, bar_of, channel)
                self.tells(True, is_bar, channel, wanted)


class Gates(Asking):
    def test_examples(self):
        self.tells([(0, 0)] * 16, gates, NARROW)
        self.tells([(0, 8)] * 16, gates, WIDEST)
        self.tells([(3, 3), (4, 4)], gates, ((0, 3), (4, 8)))
        self.tells([(0, 5), (1, 6), (2, 7)], gates, ((0, 2, 5), (1, 3, 6, 8), (2, 7)))

    def test_dead_ends_do_not_count(self):
        self.tells([(2, 2), (2, 2), (2, 2)], gates, ((0, 2), (0, 2, 5), (2, 8)))
        self.tells([(4, 4), (3, 5), (4, 4)], gates, ((4,), FULL, (4,)))

    def test_mixed(self):
        for channel in mixed_channels():
            ways = ways_one_by_one(channel)
            wanted = [(min(rows), max(rows)) for rows in zip(*ways)] if ways else None
            self.tells(wanted, gates, channel)


if __name__ == "__main__":
    unittest.main()
