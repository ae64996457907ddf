"""Point 90: a book of notices."""

import itertools
import random
import unittest

from asking import (
    FAR, NO_DRAUGHTS, WHATEVER, Asking, lay, mixed_notices, mixed_sea, no_wholes, numbered, plain_sea, refusals_of_day,
    sea_of_texts,
)

from laidmarks.book import Book
from laidmarks.channels import channel_of
from laidmarks.errors import (
    MarkError, NoDay, NoDraught, NoMark, NoNotices, NoNumber, NoSea, Nothing, There, TooMany, Unlike,
)
from laidmarks.marks import mark_at, void

SEA = plain_sea(4, 5)
NOTICES = [
    (7, 12, ("lay", 3, (1, 2), 0, 1, 5, True)),
    (8, 30, ("gale", 6)),
    (9, 31, ("seen", 3, (2, 2))),
    (10, 31, ("depth", (3, 1), 0)),
    (11, 40, ("lift", 3)),
    (12, 41, ("lift", 3)),
]
NO_NOTICES = WHATEVER + (
    list(NOTICES[0]), [NOTICES[0]], (NOTICES[0],), (0, 0, ("gale", 1)), (100, 0, ("gale", 1)), (1, -1, ("gale", 1)),
    (1, 401, ("gale", 1)), (1, 0, ("gale", 0)), (1, 0, ("gale", 10)), (1, 0, ("gale", True)), (True, 0, ("gale", 1)),
    (1, False, ("gale", 1)), (1, 0, ["gale", 1]), (1, 0, ("gale",)), (1, 0, ("storm", 1)), (1, 0, ("lift", 13)),
    (1, 0, ("lift", 0)), (1, 0, lay(1, (4, 0))), (1, 0, lay(1, (0, 5))), (1, 0, lay(1, (0, 0), lit=1)),
    (1, 0, ("seen", 1, (4, 0))), (1, 0, ("seen", 1, [0, 0])), (1, 0, ("depth", (0, 5), 1)),
    (1, 0, ("depth", (0, 0), 10)),
    (1, 0), (1, 0, ("gale", 1), 0), (1, 0, ()), (1, 0, None), (1, 0, ([], 1)), ("1", 0, ("gale", 1)), "8 30 gale 6",
    (FAR, 0, ("gale", 1)), {1: 2}, (1, 0, ("lay", 1, (0, 0), 0, 0, 1)), (1, 0, ("lay", 1, (0, 0), 3, 0, 1, True)),
)
NO_SEAS, NO_HELD, NO_DAYS = [refusals_of_day(SEA)[at][2] for at in (0, 2, 3)]
NO_MARKS = no_wholes(range(1, 13)) + [0, 13, -1, True, False, "1", (1,), [1], {1: 1}]


def gale(number, strength=3):
    return (number, 5, ("gale", strength))


def book_of(*notices, sea=SEA):
    book = Book(sea)
    for notice in notices:
        book.take_in(notice)
    return book


class BookCase(Asking):
    def keeps(self, wanted, book):
        self.tells(wanted, book.notices_now)

    def refuses_and_keeps(self, error, fields, book, call, *things):
        """A refusal leaves what is kept, and what can be undone, as it was."""
        kept = book.notices_now()
        self.refuses_with(error, fields, call, *things)
        self.keeps(kept, book)

    def undone_to_the_end(self, book):
        """What is kept ahead of each undoing, and how many there were."""
        told = []
        while True:
            kept = book.notices_now()
            try:
                self.assertIsNone(book.undo())
            except Nothing:
                return told
            told.append(kept)


class Made(Asking):
    def test_for_a_sea(self):
        for sea in (SEA, plain_sea(2, 1), plain_sea(16, 9), sea_of_texts("00", "00")):
            self.tells([], Book(sea).notices_now)

    def test_no_sea(self):
        for thing in NO_SEAS:
            self.refuses(NoSea, Book, thing)


class TakingIn(BookCase):
    def test_each_deed(self):
        book = Book(SEA)
        for many, notice in enumerate(NOTICES, start=1):
            self.assertIsNone(book.take_in(notice))
            self.keeps(NOTICES[:many], book)

    def test_rising_in_whatever_order(self):
        for notices in itertools.permutations(NOTICES[:5]):
            self.keeps(NOTICES[:5], book_of(*notices))
        self.keeps([(2, 9, ("gale", 1)), (10, 0, ("gale", 1))], book_of((10, 0, ("gale", 1)), (2, 9, ("gale", 1))))

    def test_what_is_no_notice(self):
        for notices in ((), NOTICES):
            book = book_of(*notices)
            for thing in NO_NOTICES:
                self.refuses_and_keeps(NoNotices, {}, book, book.take_in, thing)
            self.assertEqual(len(self.undone_to_the_end(book)), len(notices))

    def test_cells_of_this_sea(self):
        notice = (1, 0, ("depth", (3, 4), 1))
        self.keeps([notice], book_of(notice))
        for sea in (plain_sea(3, 5), plain_sea(4, 4)):
            self.refuses(NoNotices, Book(sea).take_in, notice)

    def test_kept_already(self):
        book = book_of(*NOTICES)
        for notice in NOTICES:
            self.refuses_and_keeps(There, {}, book, book.take_in, notice)
        self.assertEqual(len(self.undone_to_the_end(book)), len(NOTICES))

    def test_another_one_with_the_number(self):
        book = book_of(*NOTICES)
        for number in range(7, 13):
            for other in ((number, 0, ("gale", 6)), (number, 400, ("lift", 3)), (number, 30, ("gale", 5))):
                self.refuses_and_keeps(Unlike, {"number": number}, book, book.take_in, other)
        self.assertEqual(len(self.undone_to_the_end(book)), len(NOTICES))

    def test_unlike_by_one_part(self):
        book = book_of((1, 0, lay(1, (0, 0), 0, 0, 1, True)))
        for other in ((1, 1, lay(1, (0, 0), 0, 0, 1, True)), (1, 0, lay(2, (0, 0), 0, 0, 1, True)),
                      (1, 0, lay(1, (0, 1), 0, 0, 1, True)), (1, 0, lay(1, (0, 0), 1, 0, 1, True)),
                      (1, 0, lay(1, (0, 0), 0, 1, 1, True)), (1, 0, lay(1, (0, 0), 0, 0, 2, True)),
                      (1, 0, lay(1, (0, 0), 0, 0, 1, False))):
            self.refuses_and_keeps(Unlike, {"number": 1}, book, book.take_in, other)
        self.refuses_and_keeps(There, {}, book, book.take_in, (1, 0, lay(1, (0, 0), 0, 0, 1, True)))

    def test_thirty_and_one_more(self):
        numbers = list(range(99, 69, -1))
        book = book_of(*[gale(number) for number in numbers])
        self.keeps([gale(number) for number in range(70, 100)], book)
        for number in (1, 2, 69):
            self.refuses_and_keeps(TooMany, {"many": 31, "most": 30}, book, book.take_in, gale(number))
        # Struck or undone, there is room for one again.
        book.strike(80)
        self.assertIsNone(book.take_in(gale(1)))
        self.refuses_and_keeps(TooMany, {"many": 31, "most": 30}, book, book.take_in, gale(80))
        book.undo()
        self.assertIsNone(book.take_in(gale(2)))
        self.refuses_and_keeps(TooMany, {"many": 31, "most": 30}, book, book.take_in, gale(80))
        self.assertEqual(len(self.undone_to_the_end(book)), 32)

    def test_the_first_that_is_due(self):
        book = book_of(*[gale(number) for number in range(1, 31)])
        self.refuses_and_keeps(NoNotices, {}, book, book.take_in, gale(0))
        self.refuses_and_keeps(NoNotices, {}, book, book.take_in, gale(1, 10))
        self.refuses_and_keeps(NoNotices, {}, book, book.take_in, (True, 5, ("gale", 3)))
        self.refuses_and_keeps(There, {}, book, book.take_in, gale(1))
        self.refuses_and_keeps(There, {}, book, book.take_in, gale(30))
        self.refuses_and_keeps(Unlike, {"number": 1}, book, book.take_in, gale(1, 4))
        self.refuses_and_keeps(Unlike, {"number": 30}, book, book.take_in, gale(30, 4))
        self.refuses_and_keeps(TooMany, {"many": 31, "most": 30}, book, book.take_in, gale(31))

    def test_void_ones_are_kept_too(self):
        book = book_of((5, 0, ("lift", 1)))
        self.keeps([(5, 0, ("lift", 1))], book)
        self.tells([5], book.void_now, 99)


class Striking(BookCase):
    def test_each(self):
        for notice in NOTICES:
            book = book_of(*NOTICES)
            self.assertIsNone(book.strike(notice[0]))
            self.keeps([other for other in NOTICES if other != notice], book)
            self.refuses_and_keeps(NoNumber, {}, book, book.strike, notice[0])

    def test_all(self):
        for notices in itertools.permutations(NOTICES[:4]):
            book = book_of(*NOTICES[:4])
            for notice in notices:
                book.strike(notice[0])
            self.keeps([], book)

    def test_struck_and_taken_in_again(self):
        book = book_of(*NOTICES)
        book.strike(8)
        self.assertIsNone(book.take_in((8, 1, ("lift", 2))))
        self.assertEqual(book.notices_now()[1], (8, 1, ("lift", 2)))
        self.refuses_and_keeps(Unlike, {"number": 8}, book, book.take_in, NOTICES[1])

    def test_a_number_that_is_not_kept(self):
        book = book_of(*NOTICES)
        for number in (0, 1, 6, 13, 99, 100, -1, -7, FAR, -FAR):
            self.refuses_and_keeps(NoNumber, {}, book, book.strike, number)
        self.assertEqual(len(self.undone_to_the_end(book)), len(NOTICES))
        self.refuses(NoNumber, book.strike, 7)

    def test_what_is_no_number(self):
        book = book_of(gale(1), gale(2), gale(7))
        wrong = no_wholes((1, 2, 7)) + [True, False, None, "1", "7", (7,), [7], {7: 7}, gale(7), "", []]
        for thing in wrong:
            self.refuses_and_keeps(NoNumber, {}, book, book.strike, thing)
        self.assertEqual(len(self.undone_to_the_end(book)), 3)
        for thing in WHATEVER:
            self.refuses(NoNumber, Book(SEA).strike, thing)


class Undoing(BookCase):
    def test_nothing(self):
        book = Book(SEA)
        self.refuses_and_keeps(Nothing, {}, book, book.undo)
        book.take_in(gale(1))
        book.undo()
        self.refuses_and_keeps(Nothing, {}, book, book.undo)
        self.assertIsNone(book.take_in(gale(1)))
        self.keeps([gale(1)], book)

    def test_taken_in(self):
        book = book_of(gale(5), gale(3), gale(9))
        self.assertIsNone(book.undo())
        self.keeps([gale(3), gale(5)], book)
        self.assertIsNone(book.undo())
        self.keeps([gale(5)], book)
        self.assertIsNone(book.undo())
        self.keeps([], book)
        self.refuses_and_keeps(Nothing, {}, book, book.undo)

    def test_struck(self):
        book = book_of(gale(5), gale(3))
        book.strike(5)
        book.strike(3)
        self.keeps([], book)
        book.undo()
        self.keeps([gale(3)], book)
        book.undo()
        self.keeps([gale(3), gale(5)], book)

    def test_the_last_that_stands(self):
        book = book_of(gale(1), gale(2))
        book.undo()
        book.take_in(gale(3))
        self.keeps([gale(1), gale(3)], book)
        # What was undone stands no more, so that behind gale 3 comes gale 1.
        book.undo()
        self.keeps([gale(1)], book)
        book.undo()
        self.keeps([], book)
        self.refuses_and_keeps(Nothing, {}, book, book.undo)

    def test_struck_and_replaced(self):
        book = book_of(gale(1))
        book.strike(1)
        book.take_in(gale(1, 9))
        book.undo()
        self.keeps([], book)
        book.undo()
        self.keeps([gale(1)], book)
        book.undo()
        self.keeps([], book)

    def test_what_was_refused_is_no_deed(self):
        book = book_of(gale(1), gale(2))
        for call, thing in ((book.take_in, gale(1)), (book.take_in, gale(1, 4)), (book.take_in, None),
                            (book.strike, 3), (book.strike, None), (book.mark_now, None)):
            if call == book.mark_now:
                self.refuses(NoNumber, call, thing, 0, 1)
            else:
                self.assertRaises(MarkError, call, thing)
        book.undo()
        self.keeps([gale(1)], book)
        book.undo()
        self.keeps([], book)
        self.assertRaises(Nothing, book.undo)
        self.assertRaises(Nothing, book.undo)
        book.take_in(gale(4))
        book.undo()
        self.keeps([], book)

    def test_mixed_deeds(self):
        """Against the states of a book that keeps them all."""
        chance = random.Random(90)
        for repeat in range(60):
            book = Book(SEA)
            states = [{}]
            for step in range(80):
                self.some_deed(chance, book, states)
                self.assertEqual(book.notices_now(), [states[-1][number] for number in sorted(states[-1])])
            undone = self.undone_to_the_end(book)
            self.assertEqual(undone, [sorted(state.values()) for state in states[:0:-1]])
            self.keeps([], book)

    def some_deed(self, chance, book, states):
        kept = dict(states[-1])
        deed = chance.choice(("take in", "take in", "take in", "strike", "undo"))
        number = chance.randint(1, chance.choice((4, 40)))
        if deed == "undo":
            self.does(book.undo, (), None if len(states) > 1 else Nothing)
            if len(states) > 1:
                states.pop()
        elif deed == "strike":
            self.does(book.strike, (number,), None if number in kept else NoNumber)
            if number in kept:
                kept.pop(number)
                states.append(kept)
        else:
            notice = gale(number, chance.randint(1, 2))
            error = self.due(kept, notice)
            self.does(book.take_in, (notice,), error)
            if error is None:
                kept[number] = notice
                states.append(kept)

    def due(self, kept, notice):
        if kept.get(notice[0]) == notice:
            return There
        if notice[0] in kept:
            return Unlike
        return TooMany if len(kept) >= 30 else None

    def does(self, call, things, error):
        how, answer = self.answer_of(call, things)
        if error is None:
            self.assertEqual((how, answer), ("told", None))
        else:
            self.assertEqual((how, type(answer)), ("refused", error))


class Telling(BookCase):
    def test_where_a_mark_is(self):
        book = book_of(*NOTICES)
        self.tells(("ashore",), book.mark_now, 99, 11, 3)
        self.tells(("at", (1, 2)), book.mark_now, 99, 12, 3)
        self.tells(("adrift", ((1, 2),)), book.mark_now, 99, 30, 3)
        self.tells(("adrift", ((2, 2),)), book.mark_now, 99, 31, 3)
        self.tells(("at", (1, 2)), book.mark_now, 7, 400, 3)
        self.tells(("ashore",), book.mark_now, 99, 40, 3)
        book.strike(8)
        self.tells(("at", (1, 2)), book.mark_now, 99, 31, 3)
        self.tells([9, 12], book.void_now, 99)
        book.undo()
        self.tells(("adrift", ((2, 2),)), book.mark_now, 99, 31, 3)

    def test_the_channel(self):
        book = book_of(*NOTICES)
        full = (0, 1, 2, 3, 4)
        self.tells((full, (3, 4), full, full), book.channel_now, 99, 12, 3, False)
        self.tells((full, full, full, (0, 2, 3, 4)), book.channel_now, 99, 31, 3, True)
        self.tells(((),) * 4, book.channel_now, 99, 12, 6, False)

    def test_by_night(self):
        book = book_of((1, 0, lay(1, (1, 0), 0, lit=False)), (2, 0, lay(2, (1, 4), 1, lit=True)))
        full = (0, 1, 2, 3, 4)
        self.tells((full, (1, 2, 3), full, full), book.channel_now, 99, 0, 3, False)
        self.tells((full, (0, 1, 2, 3), full, full), book.channel_now, 99, 0, 3, True)

    def test_void_ones(self):
        book = book_of(*NOTICES)
        self.tells([12], book.void_now, 99)
        self.tells([], book.void_now, 11)
        book.strike(7)
        self.tells([9, 11, 12], book.void_now, 99)

    def test_of_an_empty_book(self):
        book = Book(SEA)
        self.tells([], book.notices_now)
        self.tells([], book.void_now, 0)
        for mark in range(1, 13):
            self.tells(("ashore",), book.mark_now, 99, 400, mark)
        self.tells(((0, 1, 2, 3, 4),) * 4, book.channel_now, 99, 0, 5, True)

    def test_as_of_what_is_kept(self):
        chance = random.Random(91)
        for repeat in range(80):
            sea = mixed_sea(chance)
            notices = mixed_notices(chance, sea)
            book = book_of(*notices, sea=sea)
            for number in chance.sample([notice[0] for notice in notices], len(notices) // 3):
                book.strike(number)
            kept = book.notices_now()
            for held in (0, 50, 99):
                self.tells(void(sea, kept, held), book.void_now, held)
                for day in (0, 3, 6, 400):
                    for mark in (1, 2, 3, 4):
                        self.tells(mark_at(sea, kept, held, day, mark), book.mark_now, held, day, mark)
                    for draught, night in ((1, False), (2, True), (3, False)):
                        self.tells(channel_of(sea, kept, held, day, draught, night),
                                   book.channel_now, held, day, draught, night)

    def test_the_same_in_whatever_order(self):
        chance = random.Random(92)
        for repeat in range(20):
            sea = mixed_sea(chance)
            notices = mixed_notices(chance, sea)
            first = book_of(*notices, sea=sea)
            other = book_of(*chance.sample(notices, len(notices)), sea=sea)
            self.assertEqual(repr(self.all_told(first)), repr(self.all_told(other)))
            # Nor does it matter what was taken in and struck between.
            numbers = [notice[0] for notice in notices]
            for number in chance.sample(numbers, len(numbers)):
                other.strike(number)
            for notice in chance.sample(notices, len(notices)):
                other.take_in(notice)
            self.assertEqual(repr(self.all_told(first)), repr(self.all_told(other)))

    def all_told(self, book):
        marks = [book.mark_now(99, day, mark) for day in range(8) for mark in (1, 2, 3)]
        return [book.notices_now(), book.void_now(99), book.void_now(50), marks,
                [book.channel_now(99, day, 1, False) for day in range(8)]]

    def test_told_lists_changed_by_the_asker(self):
        book = book_of(*NOTICES)
        told, other = book.notices_now(), book.notices_now()
        self.assertIsNot(told, other)
        told.clear()
        self.assertEqual(other, NOTICES)
        other.append(gale(50))
        self.keeps(NOTICES, book)
        numbers = book.void_now(99)
        numbers.append(5)
        self.tells([12], book.void_now, 99)
        self.assertEqual(len(self.undone_to_the_end(book)), len(NOTICES))

    def test_two_books_side_by_side(self):
        one, other = Book(SEA), Book(SEA)
        one.take_in(gale(1))
        self.keeps([], other)
        self.assertRaises(Nothing, other.undo)
        other.take_in(gale(1, 9))
        other.take_in(gale(2))
        one.undo()
        self.keeps([], one)
        self.keeps([gale(1, 9), gale(2)], other)
        one.take_in(gale(3))
        other.strike(1)
        self.keeps([gale(3)], one)
        self.keeps([gale(2)], other)

    def test_what_is_handed_in_is_as_it_was(self):
        notices = numbered((0, lay(1, (0, 0))), (1, ("gale", 6)), (2, ("seen", 1, (0, 0))))
        before = repr((SEA, notices))
        book = book_of(*notices)
        book.strike(2)
        book.undo()
        self.assertEqual(repr((SEA, notices)), before)
        notices.clear()
        self.assertEqual(len(book.notices_now()), 3)

    def test_refusals(self):
        for notices in ((), NOTICES):
            book = book_of(*notices)
            self.refuses_each(book.mark_now, (99, 12, 3), (
                (0, NoNumber, NO_HELD), (1, NoDay, NO_DAYS), (2, NoMark, NO_MARKS)))
            for night in (False, True):
                self.refuses_each(book.channel_now, (99, 12, 3, night), (
                    (0, NoNumber, NO_HELD), (1, NoDay, NO_DAYS), (2, NoDraught, NO_DRAUGHTS)))
            self.refuses_each(book.void_now, (99,), ((0, NoNumber, NO_HELD),))
            self.keeps(list(notices), book)


if __name__ == "__main__":
    unittest.main()
