"""Points 100 and 101: a desk that is told lines."""

import random
import unittest

from asking import WHATEVER, Asking, mixed_notices, mixed_sea, plain_sea, refusals_of_day, sea_of_texts

from laidmarks.channels import channel_of
from laidmarks.desk import Desk
from laidmarks.errors import (
    NoDay, NoDraught, NoLine, NoMark, NoNumber, NoSea, NoText, Nothing, There, TooMany, Unlike,
)
from laidmarks.marks import mark_at, void
from laidmarks.texts import channel_text, notices_text
from laidmarks.ways import bar_of, least_way

SEA = plain_sea(6, 3)
LINES = ("7 12 lay 3 4.2 1 1 5 lit", "8 30 gale 6", "9 31 seen 3 4.1", "10 31 depth 4.1 0", "11 40 lift 3",
         "12 41 lift 3")
TWENTY = "1" + "0" * 19
# Figures that write no number.
NO_NUMBERS = ("", "01", "00", "007", "+1", "-1", "-0", "1.0", "1.", "1,0", "1_0", "0x1", "1e1", "one", "None", "True",
              "lit",
              "1\t", "\t1", "1\n", "\n1", "1" * 21, "0" * 20 + "1", "9" * 500, "*", "4.2", "'1'", "1/2", "~", "k")
FORMS = {"strike": 1, "void": 1, "mark": 3, "channel": 3, "dark": 3, "way": 3, "bar": 3}
GOOD = {"strike": "7", "void": "99", "mark": "3 99 12", "channel": "3 99 12", "dark": "3 99 12", "way": "3 99 12",
        "bar": "3 99 12"}


def desk_of(*texts, sea=SEA):
    desk = Desk(sea)
    for text in texts:
        if desk.say(f"tell {text}") != "ok":
            raise AssertionError(text)
    return desk


def all_told(desk):
    """What a desk tells of what is kept."""
    lines = [f"void {held}" for held in (0, 8, 99)]
    lines += [f"mark 3 {held} {day}" for held in (7, 8, 99) for day in (0, 12, 30, 31, 32, 40)]
    lines += [f"{word} 3 99 {day}" for word in ("channel", "dark", "way", "bar") for day in (0, 12, 31)]
    return [desk.say(line) for line in lines]


class DeskCase(Asking):
    def answers(self, wanted, desk, line):
        self.tells(wanted, desk.say, line)

    def refuses_line(self, error, desk, line, **fields):
        """A refusal changes nothing."""
        before = all_told(desk)
        self.refuses_with(error, fields, desk.say, line)
        self.assertEqual(all_told(desk), before, line)


class Made(Asking):
    def test_for_a_sea(self):
        for sea in (SEA, plain_sea(2, 1), plain_sea(16, 9)):
            self.tells("none", Desk(sea).say, "void 99")

    def test_no_sea(self):
        for thing in refusals_of_day(SEA)[0][2]:
            self.refuses(NoSea, Desk, thing)


class Deeds(DeskCase):
    def test_tell(self):
        desk = Desk(SEA)
        for text in LINES:
            self.assertEqual(desk.say(f"tell {text}"), "ok")
        self.answers("12", desk, "void 99")

    def test_tell_what_writes_no_notice(self):
        desk = desk_of(*LINES)
        for text in (
            "", " ", "  ", "8", "8 30", "8 30 gale", "8 30 gale 6 ", " 8 30 gale 6", "8  30 gale 6", "1 1 gale 06",
            "01 1 gale 6", "1 1 gale 10", "1 1 gale 0", "0 1 gale 6", "100 1 gale 6", "1 401 gale 6", "1 1 storm 6",
            "1 1 gale 6 6", "1 1 lift 13", "1 1 seen 1 6.0", "1 1 seen 1 0.3", "1 1 depth 0.0 10",
            "1 1 lay 1 0.0 0 0 1",
            "1 1 lay 1 0.0 0 0 1 True", "1 1 gale " + "1" * 21, "1 1 gale +6", "tell 1 1 gale 6", "ok", "none", "undo",
            "strike 7", "1 1 gale 6\t", "~" * 900, "1 1 lay 1 6.0 0 0 1 lit",
        ):
            self.refuses_line(NoText, desk, f"tell {text}", row=1)

    def test_tell_with_a_line_feed(self):
        desk = desk_of(*LINES)
        for text in ("\n", "1 1 gale 6\n", "\n1 1 gale 6", "1 1 gale 6\n2 1 gale 6", "1 1\ngale 6", "1 1 gale\n6",
                     "1\n1 gale 6", "8 30 gale 6\n", "1 1 gale 6\n\n", "none\n1 1 gale 6", "1 1 gale 6\nnone"):
            self.refuses_line(NoText, desk, f"tell {text}", row=1)

    def test_refusals_of_the_book_that_is_told(self):
        desk = desk_of(*LINES)
        for text in LINES:
            self.refuses_line(There, desk, f"tell {text}")
        self.refuses_line(Unlike, desk, "tell 8 30 gale 7", number=8)
        self.refuses_line(Unlike, desk, "tell 12 41 lift 4", number=12)
        desk = desk_of(*[f"{number} 5 gale 3" for number in range(1, 31)])
        self.refuses_line(TooMany, desk, "tell 31 5 gale 3", many=31, most=30)
        self.refuses_line(There, desk, "tell 30 5 gale 3")
        self.refuses_line(Unlike, desk, "tell 30 5 gale 4", number=30)
        self.refuses_line(NoText, desk, "tell 31 5 gale 10", row=1)

    def test_strike(self):
        desk = desk_of(*LINES)
        self.answers("adrift 4.2", desk, "mark 3 99 30")
        self.assertEqual(desk.say("strike 8"), "ok")
        self.answers("at 4.2", desk, "mark 3 99 30")
        self.refuses_line(NoNumber, desk, "strike 8")
        for number in ("0", "1", "6", "13", "99", "100", TWENTY, "9" * 20):
            self.refuses_line(NoNumber, desk, f"strike {number}")

    def test_undo(self):
        desk = desk_of(*LINES)
        self.assertEqual(desk.say("strike 7"), "ok")
        self.answers("9 11 12", desk, "void 99")
        self.assertEqual(desk.say("undo"), "ok")
        self.answers("12", desk, "void 99")
        for text in LINES:
            self.assertEqual(desk.say("undo"), "ok")
        self.refuses_line(Nothing, desk, "undo")
        self.refuses_line(Nothing, desk, "undo")
        self.assertEqual(desk.say("tell 8 30 gale 6"), "ok")

    def test_what_is_refused_is_no_deed(self):
        desk = desk_of(LINES[0], LINES[1])
        for line in ("tell", "tell ", f"tell {LINES[0]}", "tell 8 1 gale 6", "strike 5", "strike 05", "undo 1",
                     "mark 0 0 0",
                     None):
            self.assertEqual(self.answer_of(desk.say, (line,))[0], "refused")
        self.assertEqual(desk.say("undo"), "ok")
        self.answers("at 4.2", desk, "mark 3 99 400")
        self.assertEqual(desk.say("undo"), "ok")
        self.refuses_line(Nothing, desk, "undo")

    def test_two_desks_side_by_side(self):
        one, other = desk_of(LINES[0]), Desk(SEA)
        self.answers("at 4.2", one, "mark 3 99 12")
        self.answers("ashore", other, "mark 3 99 12")
        self.refuses_line(Nothing, other, "undo")


class Answers(DeskCase):
    def test_void(self):
        desk = desk_of("5 0 lift 1", "10 0 lift 2", "9 0 lift 12", "20 0 gale 3")
        self.answers("5 9 10", desk, "void 99")
        self.answers("5 9", desk, "void 9")
        self.answers("5", desk, "void 5")
        self.answers("none", desk, "void 4")
        self.answers("none", desk, "void 0")
        self.answers("none", Desk(SEA), "void 99")

    def test_mark(self):
        desk = desk_of(*LINES)
        for line, wanted in (
            ("mark 3 99 11", "ashore"), ("mark 3 99 12", "at 4.2"), ("mark 3 99 29", "at 4.2"),
            ("mark 3 99 30", "adrift 4.2"), ("mark 3 8 31", "adrift 3.2 4.1 4.2 5.2"), ("mark 3 99 31", "adrift 4.1"),
            ("mark 3 9 32", "adrift 3.1 4.0 4.1 4.2 5.1"), ("mark 3 99 39", "adrift 4.1"), ("mark 3 99 40", "ashore"),
            ("mark 3 6 400", "ashore"), ("mark 3 7 400", "at 4.2"), ("mark 12 99 400", "ashore"), ("mark 1 0 0",
                                                                                                   "ashore"),
        ):
            self.answers(wanted, desk, line)

    def test_mark_in_the_farthest_cells(self):
        desk = desk_of("1 0 lay 12 15.8 0 0 1 lit", "2 1 lay 11 10.0 0 0 9 dark", "3 2 gale 2", sea=plain_sea(16, 9))
        self.answers("at 15.8", desk, "mark 12 99 0")
        self.answers("at 10.0", desk, "mark 11 99 400")
        self.answers("adrift 14.8 15.7 15.8", desk, "mark 12 99 3")

    def test_channel_and_dark(self):
        desk = desk_of("1 0 lay 1 1.1 2 0 9 lit", "2 0 lay 2 2.0 1 0 9 dark", "3 5 depth 0.1 2", "4 5 depth 3.0 0")
        self.answers("012/02/-/012/012/012", desk, "channel 3 99 0")
        self.answers("012/02/012/012/012/012", desk, "dark 3 99 0")
        self.answers("02/02/-/12/012/012", desk, "channel 3 99 5")
        self.answers("012/02/012/12/012/012", desk, "dark 2 99 5")
        self.answers("012/02/012/012/012/012", desk, "channel 3 1 5")
        self.answers("-/-/-/-/-/-", desk, "channel 6 99 0")
        self.answers("-/-/-/-/-/-", desk, "dark 9 0 0")

    def test_way(self):
        desk = desk_of("1 0 lay 1 1.0 0 0 9 dark", "2 0 lay 2 3.1 0 0 9 dark", "3 5 lay 4 2.0 1 0 9 dark")
        self.answers("000000", Desk(SEA), "way 3 0 0")
        self.answers("010000", desk, "way 3 1 0")
        self.answers("011210", desk, "way 3 99 0")
        self.answers("none", desk, "way 3 99 5")
        self.answers("none", desk, "way 6 0 0")
        self.answers("8" * 16, desk_of(sea=sea_of_texts(*["000000009"] * 16)), "way 9 0 0")

    def test_the_way_is_by_day(self):
        desk = desk_of("1 0 lay 1 1.2 0 0 9 dark")
        self.answers("none", desk, "way 3 99 0")
        self.answers("012/-", desk, "bar 3 99 0")
        self.answers("012/012/012/012/012/012", desk, "dark 3 99 0")

    def test_bar(self):
        self.answers("none", Desk(SEA), "bar 3 0 0")
        self.answers("none", Desk(SEA), "bar 5 99 400")
        self.answers("-", Desk(SEA), "bar 6 0 0")
        desk = desk_of("1 0 lay 1 0.2 0 0 9 dark", "2 0 lay 2 3.0 1 0 9 dark")
        self.answers("-", desk, "bar 3 99 0")
        self.answers("-", desk, "bar 3 1 0")
        desk = Desk(sea_of_texts("9111", "9911", "1119", "9999"))
        self.answers("0/01/-", desk, "bar 3 0 0")
        self.answers("none", desk, "way 3 0 0")
        self.answers("0123/0123/0123/0123", desk, "channel 1 0 0")
        self.answers("none", desk, "bar 1 0 0")
        self.answers("0000", desk, "way 1 0 0")

    def test_a_bar_to_the_last_column(self):
        desk = Desk(sea_of_texts("99", "99", "11"))
        self.answers("01/01/-", desk, "bar 3 0 0")
        self.answers("01/01/-", desk, "channel 3 0 0")

    def test_as_the_functions_tell(self):
        chance = random.Random(100)
        for repeat in range(60):
            sea = mixed_sea(chance)
            notices = mixed_notices(chance, sea)
            desk = desk_of(*notices_text(sea, chance.sample(notices, len(notices))).split("\n"), sea=sea)
            for held in (0, 50, 99):
                numbers = [str(number) for number in void(sea, notices, held)]
                self.answers(" ".join(numbers) if numbers else "none", desk, f"void {held}")
                for day in (0, 2, 5, 400):
                    self.marks_and_channels(desk, sea, notices, held, day)

    def marks_and_channels(self, desk, sea, notices, held, day):
        for mark in (1, 2, 3, 4):
            word, *cells = mark_at(sea, notices, held, day, mark)
            if word == "adrift":
                cells = cells[0]
            wanted = [word] + [f"{column}.{row}" for column, row in cells]
            self.answers(" ".join(wanted), desk, f"mark {mark} {held} {day}")
        for draught in (1, 2, 4):
            asked = f"{draught} {held} {day}"
            channel = channel_of(sea, notices, held, day, draught, False)
            self.answers(channel_text(channel), desk, f"channel {asked}")
            self.answers(channel_text(channel_of(sea, notices, held, day, draught, True)), desk, f"dark {asked}")
            way, bar = least_way(channel), bar_of(channel)
            self.answers("none" if way is None else "".join(str(row) for row in way), desk, f"way {asked}")
            written = ["".join(str(row) for row in rows) or "-" for rows in bar or ()]
            self.answers("/".join(written) if bar else "none", desk, f"bar {asked}")


class Refusals(DeskCase):
    def test_other_kinds(self):
        desk = desk_of(*LINES)
        for thing in WHATEVER + (["undo"], ("undo",), {"undo": 1}, ("void", 99), ["void 99"]):
            self.refuses_line(NoLine, desk, thing)

    def test_another_word(self):
        desk = desk_of(*LINES)
        for line in ("", " ", "  ", "\n", "ok", "none", "say", "Undo", "UNDO", "undo.", "und", "undone", "undo\n",
                     "\nundo",
                     "undo\t", "tell", "Tell 1 1 gale 6", "tells 1 1 gale 6", "tell\t1 1 gale 6", "tell\n1 1 gale 6",
                     "tell\n", "told", "take_in 1 1 gale 6", "7 12 gale 6", "voids 99", "VOID 99", "ways 3 99 12",
                     "channels 3 99 12", "darkness 3 99 12", "lit 3 99 12", "bars 3 99 12", "marks 3 99 12", "0", "99",
                     "99 void", "12 3 99 mark", "void\t99", "mark\n3 99 12", "night 3 99 12", "channel/3/99/12"):
            self.refuses_line(NoLine, desk, line)

    def test_words_more_or_fewer(self):
        desk = desk_of(*LINES)
        for line in ("undo 1", "undo undo", "undo 0", "strike", "strike 7 8", "void", "void 99 99", "mark", "mark 3",
                     "mark 3 99", "mark 3 99 12 1", "tell"):
            self.refuses_line(NoLine, desk, line)
        for word in ("channel", "dark", "way", "bar"):
            for line in (word, f"{word} 3", f"{word} 3 99", f"{word} 3 99 12 0", f"{word} 3 99 12 lit"):
                self.refuses_line(NoLine, desk, line)

    def test_blanks(self):
        desk = desk_of(*LINES)
        for line in ("undo ", " undo", "undo  ", " tell 1 1 gale 6", "  tell 1 1 gale 6"):
            self.refuses_line(NoLine, desk, line)
        for word, numbers in GOOD.items():
            for line in (f" {word} {numbers}", f"{word} {numbers} ", f"{word}  {numbers}", f"  {word} {numbers}",
                         f"{word} {numbers}  ", f"{word}{numbers}", f"{word} ", f"{word} " + numbers.replace(" ", "  "),
                         f"{word}\t{numbers}", f"{word} {numbers}\n"):
                if line != f"{word} {numbers}":
                    self.refuses_line(NoLine, desk, line)

    def test_numbers_that_are_not_so_written(self):
        desk = desk_of(*LINES)
        for word, many in FORMS.items():
            for place in range(many):
                for figures in NO_NUMBERS:
                    numbers = GOOD[word].split(" ")
                    numbers[place] = figures
                    self.refuses_line(NoLine, desk, " ".join([word] + numbers))

    def test_no_line_ahead_of_all_else(self):
        desk = Desk(SEA)
        for line in ("mark 13 100 0401", "mark 013 100 401", "mark 13 0100 401", "channel 10 100 0401",
                     "dark 010 100 401",
                     "way 10 0100 401", "bar 10 100 401 ", "strike 07", "void 0100", "undo 1", "mark 0 100 401 5"):
            self.refuses_line(NoLine, desk, line)

    def test_numbers_beyond_their_bounds(self):
        desk = desk_of(*LINES)
        for beyond in ("100", "101", "1000", TWENTY, "9" * 20):
            self.refuses_line(NoNumber, desk, f"void {beyond}")
            self.refuses_line(NoNumber, desk, f"mark 3 {beyond} 12")
            for word in ("channel", "dark", "way", "bar"):
                self.refuses_line(NoNumber, desk, f"{word} 3 {beyond} 12")
        for beyond in ("401", "402", TWENTY, "9" * 20):
            self.refuses_line(NoDay, desk, f"mark 3 99 {beyond}")
            for word in ("channel", "dark", "way", "bar"):
                self.refuses_line(NoDay, desk, f"{word} 3 99 {beyond}")
        for beyond in ("0", "13", "14", TWENTY, "9" * 20):
            self.refuses_line(NoMark, desk, f"mark {beyond} 99 12")
        for beyond in ("0", "10", "11", TWENTY, "9" * 20):
            for word in ("channel", "dark", "way", "bar"):
                self.refuses_line(NoDraught, desk, f"{word} {beyond} 99 12")

    def test_in_the_order_of_the_book(self):
        desk = desk_of(*LINES)
        self.refuses_line(NoNumber, desk, "mark 13 100 401")
        self.refuses_line(NoNumber, desk, "mark 13 100 400")
        self.refuses_line(NoNumber, desk, "mark 12 100 401")
        self.refuses_line(NoDay, desk, "mark 13 99 401")
        for word in ("channel", "dark", "way", "bar"):
            self.refuses_line(NoNumber, desk, f"{word} 10 100 401")
            self.refuses_line(NoNumber, desk, f"{word} 0 100 400")
            self.refuses_line(NoNumber, desk, f"{word} 9 100 401")
            self.refuses_line(NoDay, desk, f"{word} 0 99 401")


if __name__ == "__main__":
    unittest.main()
