"""Point 80: notices and channels as texts."""

import itertools
import random
import unittest

from asking import (
    FAR, WHATEVER, Asking, lay, mixed_notices, mixed_sea, numbered, orders_of, plain_sea, refusals_of_day,
)

from laidmarks.errors import NoChannel, NoNotices, NoSea, NoText
from laidmarks.texts import channel_text, notices_text, read_channel, read_notices

SEA = plain_sea(16, 9)
SMALL = plain_sea(2, 3)
DOCUMENT = [
    (7, 12, ("lay", 3, (4, 2), 0, 1, 5, True)),
    (8, 30, ("gale", 6)),
    (9, 31, ("seen", 3, (5, 2))),
    (10, 31, ("depth", (4, 1), 0)),
    (11, 40, ("lift", 3)),
]
DOCUMENT_LINES = ["7 12 lay 3 4.2 0 1 5 lit", "8 30 gale 6", "9 31 seen 3 5.2", "10 31 depth 4.1 0", "11 40 lift 3"]
NO_SEAS = refusals_of_day(SEA)[0][2]
NO_NOTICES = refusals_of_day(SEA)[1][2]
NO_TEXTS = tuple(thing for thing in WHATEVER if not isinstance(thing, str))
TOP = "0123456789"
# Each line with its notice, at the bounds of all numbers.
LINES = {
    "1 0 lay 1 0.0 0 0 1 dark": (1, 0, ("lay", 1, (0, 0), 0, 0, 1, False)),
    "99 400 lay 12 15.8 2 2 9 lit": (99, 400, ("lay", 12, (15, 8), 2, 2, 9, True)),
    "10 10 lay 10 10.0 1 1 5 dark": (10, 10, ("lay", 10, (10, 0), 1, 1, 5, False)),
    "1 0 lift 1": (1, 0, ("lift", 1)),
    "99 400 lift 12": (99, 400, ("lift", 12)),
    "1 0 gale 1": (1, 0, ("gale", 1)),
    "99 400 gale 9": (99, 400, ("gale", 9)),
    "1 0 seen 1 0.0": (1, 0, ("seen", 1, (0, 0))),
    "99 400 seen 12 15.8": (99, 400, ("seen", 12, (15, 8))),
    "1 0 depth 0.0 0": (1, 0, ("depth", (0, 0), 0)),
    "99 400 depth 15.8 9": (99, 400, ("depth", (15, 8), 9)),
}
# Lines that write no notice of SEA.
NO_LINES = (
    "", " ", "  ", "8", "8 30", "8 30 ", "8 30 gale", "8 30 gale ", " 8 30 gale 6", "8 30 gale 6 ", "8  30 gale 6",
    "8 30  gale 6", "8 30 gale  6", "8 30 gale 6 7", "gale 6", "30 gale 6", "8 gale 6", "8 gale 30 6", "gale 8 30 6",
    "08 30 gale 6", "8 030 gale 6", "8 30 gale 06", "00 30 gale 6", "8 00 gale 6", "+8 30 gale 6", "-8 30 gale 6",
    "8 -0 gale 6", "8 30 gale -6", "8.0 30 gale 6", "8 30.0 gale 6", "8 30 gale 6.0", "8 30 gale 6.", "8 30 gale .6",
    "8_0 30 gale 6", "8 3_0 gale 6", "0x8 30 gale 6", "8e0 30 gale 6", "8\t30 gale 6", "8 30\tgale 6", "8 30 gale 6\t",
    "\t8 30 gale 6", "0 30 gale 6", "100 30 gale 6", "8 401 gale 6", "8 30 gale 0", "8 30 gale 10",
    "1" * 21 + " 30 gale 6", "8 " + "1" * 21 + " gale 6", "8 30 gale " + "1" * 21, "8 30 gale " + "1" * 20,
    "0" * 20 + "8 30 gale 6", "9" * 900 + " 30 gale 6", "8 30 lift " + "2" * 980,
    "8 30 gales 6", "8 30 Gale 6", "8 30 GALE 6", "8 30 gal 6", "8 30 storm 6", "8 30 void 6", "8 30 6 gale", "8 30 6",
    "8 30 gale six", "8 30 gale lit", "8 30 gale True", "8 30 gale None", "8 30 gale 1.1", "8 lit gale 6",
    "lit 30 gale 6", "dark 30 gale 6", "8 dark gale 6", "8 30 gale dark",
    "8 30 lift", "8 30 lift 0", "8 30 lift 13", "8 30 lift 1 1", "8 30 lift lit", "8 30 lift 01", "8 30 lift 1.1",
    "8 30 seen", "8 30 seen 1", "8 30 seen 1.1", "8 30 seen 1.1 1", "8 30 seen 1 1 1", "8 30 seen 1 16.0",
    "8 30 seen 1 0.9", "8 30 seen 0 0.0", "8 30 seen 13 0.0", "8 30 seen 1 00.0", "8 30 seen 1 0.00",
    "8 30 seen 1 01.0",
    "8 30 seen 1 0.01", "8 30 seen 1 0.", "8 30 seen 1 .0", "8 30 seen 1 .", "8 30 seen 1 0.0.0", "8 30 seen 1 0,0",
    "8 30 seen 1 0..0", "8 30 seen 1 0. 0", "8 30 seen 1 -1.0", "8 30 seen 1 0.-1", "8 30 seen 1 (0, 0)",
    "8 30 seen 1 0.0 lit", "8 30 seen 1 lit.0", "8 30 seen 1 " + "1" * 21 + ".0", "8 30 seen 1 0." + "1" * 21,
    "8 30 depth", "8 30 depth 0.0", "8 30 depth 0", "8 30 depth 0 0.0", "8 30 depth 0.0 10", "8 30 depth 0.0 -1",
    "8 30 depth 0.0 00", "8 30 depth 0.0 dark", "8 30 depth 16.0 1", "8 30 depth 0.9 1", "8 30 depth 0.0 0 0",
    "8 30 lay", "8 30 lay 1 0.0 0 0 1", "8 30 lay 1 0.0 0 0 1 True", "8 30 lay 1 0.0 0 0 1 False",
    "8 30 lay 1 0.0 0 0 1 1", "8 30 lay 1 0.0 0 0 1 0", "8 30 lay 1 0.0 0 0 1 Lit", "8 30 lay 1 0.0 0 0 1 LIT",
    "8 30 lay 1 0.0 0 0 1 light", "8 30 lay 1 0.0 0 0 1 lit ", "8 30 lay 1 0.0 0 0 1 lit dark",
    "8 30 lay 1 0.0 0 0 lit 1", "8 30 lay 1 0.0 0 0 0 lit", "8 30 lay 1 0.0 0 0 10 lit", "8 30 lay 1 0.0 0 3 1 lit",
    "8 30 lay 1 0.0 3 0 1 lit", "8 30 lay 0 0.0 0 0 1 lit", "8 30 lay 13 0.0 0 0 1 lit", "8 30 lay 1 16.0 0 0 1 lit",
    "8 30 lay 1 0.9 0 0 1 lit", "8 30 lay 1 0.0 lit 0 1 lit", "8 30 lay 1 0.0 0 dark 1 lit",
    "8 30 lay lit 0.0 0 0 1 lit",
    "8 30 lay 1 0 0 0 0 1 lit", "8 30 lay 0.0 1 0 0 1 lit", "8 30 lay 1 0.0 0 0 1 lit\t", "8 30 lay 1 0.0 00 0 1 lit",
)


def gales(numbers):
    return [(number, 5, ("gale", 3)) for number in numbers]


def gale_lines(numbers):
    return [f"{number} 5 gale 3" for number in numbers]


class NoticesText(Asking):
    def test_as_the_document_writes_them(self):
        self.tells("\n".join(DOCUMENT_LINES), notices_text, SEA, DOCUMENT)
        for notice, line in zip(DOCUMENT, DOCUMENT_LINES):
            self.tells(line, notices_text, SEA, [notice])

    def test_each_deed_at_its_bounds(self):
        for line, notice in LINES.items():
            self.tells(line, notices_text, SEA, [notice])

    def test_no_notices(self):
        self.tells("", notices_text, SEA, [])
        self.tells("", notices_text, SMALL, [])

    def test_in_no_order_and_several_times(self):
        for notices in orders_of(DOCUMENT):
            self.tells("\n".join(line for line, notice in zip(DOCUMENT_LINES, DOCUMENT) if notice in notices),
                       notices_text, SEA, notices)
        self.tells("8 30 gale 6", notices_text, SEA, [DOCUMENT[1]] * 30)

    def test_rising_by_their_numbers(self):
        notices = [(10, 0, ("gale", 1)), (9, 400, ("lift", 1)), (2, 7, ("gale", 1)), (99, 0, ("gale", 1))]
        self.tells("2 7 gale 1\n9 400 lift 1\n10 0 gale 1\n99 0 gale 1", notices_text, SEA, notices)

    def test_thirty(self):
        numbers = list(range(70, 100))
        self.tells("\n".join(gale_lines(numbers)), notices_text, SEA, gales(numbers[::-1]))

    def test_refusals(self):
        self.refuses_each(notices_text, (SEA, DOCUMENT), ((0, NoSea, NO_SEAS), (1, NoNotices, NO_NOTICES)))
        self.refuses(NoNotices, notices_text, SMALL, DOCUMENT)
        self.refuses(NoNotices, notices_text, SEA, gales(range(1, 32)))


class ReadNotices(Asking):
    def refuses_row(self, row, text, sea=SEA):
        self.refuses_with(NoText, {"row": row}, read_notices, sea, text)

    def test_as_the_document_writes_them(self):
        self.tells(DOCUMENT, read_notices, SEA, "\n".join(DOCUMENT_LINES))

    def test_each_deed_at_its_bounds(self):
        for line, notice in LINES.items():
            self.tells([notice], read_notices, SEA, line)

    def test_the_text_without_signs(self):
        self.tells([], read_notices, SEA, "")

    def test_lines_that_are_none(self):
        for line in NO_LINES:
            if line:
                self.refuses_row(1, line)
            self.refuses_row(2, "7 12 gale 9\n" + line)
            self.refuses_row(3, "6 12 gale 9\n7 1 lift 1\n" + line + "\n9 31 lift 1")
            self.refuses_row(1, line + "\n9 31 lift 1")

    def test_cells_of_this_sea(self):
        self.tells([(1, 1, ("seen", 1, (1, 2)))], read_notices, SMALL, "1 1 seen 1 1.2")
        for line in ("1 1 seen 1 2.0", "1 1 seen 1 0.3", "1 1 depth 2.2 5", "1 1 lay 1 1.3 0 0 1 lit"):
            self.refuses_row(1, line, SMALL)
            self.tells(1, lambda sea, text: len(read_notices(sea, text)), SEA, line)

    def test_greater_than_the_one_ahead(self):
        self.tells([(9, 5, ("gale", 1)), (10, 0, ("gale", 1))], read_notices, SEA, "9 5 gale 1\n10 0 gale 1")
        self.refuses_row(2, "10 0 gale 1\n9 5 gale 1")
        self.refuses_row(2, "2 0 gale 1\n1 5 gale 1\n3 0 gale 1")
        self.refuses_row(3, "1 0 gale 1\n3 5 gale 1\n2 9 gale 1\n1 0 gale 1")
        self.refuses_row(3, "1 0 gale 1\n3 5 gale 1\n1 9 gale 1")

    def test_a_number_that_stands_ahead(self):
        self.refuses_row(2, "5 5 gale 1\n5 5 gale 1")
        self.refuses_row(2, "5 5 gale 1\n5 5 gale 2")
        self.refuses_row(2, "5 5 gale 2\n5 5 gale 1")
        self.refuses_row(2, "5 5 gale 1\n5 6 gale 1")
        self.refuses_row(2, "5 5 gale 1\n5 5 lift 1")
        self.refuses_row(2, "5 5 gale 1\n5 4 lift 1")

    def test_the_first_of_several_wrong_lines(self):
        self.refuses_row(2, "5 5 gale 1\n5 5 gale 1\nnone\n\n")
        self.refuses_row(2, "5 5 gale 1\nnone\n5 5 gale 1")
        self.refuses_row(1, "none\n5 5 gale 1\n5 5 gale 1")

    def test_empty_lines(self):
        self.refuses_row(1, "\n")
        self.refuses_row(1, "\n\n")
        self.refuses_row(1, "\n5 5 gale 1")
        self.refuses_row(2, "5 5 gale 1\n")
        self.refuses_row(2, "5 5 gale 1\n\n")
        self.refuses_row(2, "5 5 gale 1\n\n6 5 gale 1")
        self.refuses_row(3, "5 5 gale 1\n6 5 gale 1\n")

    def test_thirty_lines_and_more(self):
        self.tells(gales(range(1, 31)), read_notices, SEA, "\n".join(gale_lines(range(1, 31))))
        self.refuses_row(31, "\n".join(gale_lines(range(1, 31))) + "\n")
        for many in (31, 32, 50, 99):
            self.refuses_row(31, "\n".join(gale_lines(range(1, many + 1))))

    def test_a_wrong_line_ahead_of_the_thirty_first_and_behind_it(self):
        for wrong in ("", "none", "1 5 gale 3", "100 5 gale 3"):
            for row in (2, 15, 29, 30):
                lines = gale_lines(range(1, 41))
                lines[row - 1] = wrong
                self.refuses_row(row, "\n".join(lines))
            for row in (31, 32, 40):
                lines = gale_lines(range(1, 41))
                lines[row - 1] = wrong
                self.refuses_row(31, "\n".join(lines))

    def test_what_is_no_text(self):
        for thing in NO_TEXTS + (DOCUMENT, ["8 30 gale 6"], ("8 30 gale 6",), {"8 30 gale 6": 1}):
            self.refuses_row(0, thing)

    def test_whatever_text(self):
        for thing in WHATEVER:
            if isinstance(thing, str) and thing:
                self.refuses_row(1, thing)

    def test_no_sea_ahead_of_no_text(self):
        for sea in NO_SEAS:
            for text in ("", "8 30 gale 6", "none", None, 5, [[]]):
                self.refuses(NoSea, read_notices, sea, text)

    def test_read_what_was_written(self):
        chance = random.Random(80)
        for repeat in range(200):
            sea = mixed_sea(chance, 16, 9)
            notices = mixed_notices(chance, sea, marks=12, last_day=400)
            text = notices_text(sea, notices)
            self.tells(sorted(notices), read_notices, sea, text)
            self.tells(text, notices_text, sea, read_notices(sea, text))

    def test_a_sign_changed_is_another_text_or_none(self):
        # What is read at all is written again just so.
        chance = random.Random(81)
        text = "\n".join(DOCUMENT_LINES)
        for repeat in range(2000):
            at = chance.randrange(len(text) + 1)
            other = text[:at] + chance.choice(" \n.0123456789ltdak-") + text[at + chance.randint(0, 1):]
            try:
                read = read_notices(SEA, other)
            except NoText as error:
                self.assertIn(error.row, range(1, 7))
            else:
                self.assertEqual(notices_text(SEA, read), other)

    def test_told_lists_are_the_asker_s_own(self):
        text = "\n".join(DOCUMENT_LINES)
        told = read_notices(SEA, text)
        told.append(None)
        told[0] = 5
        self.tells(DOCUMENT, read_notices, SEA, text)

    def test_numbers_told_are_whole_numbers(self):
        told = read_notices(SEA, "1 0 lay 1 0.1 1 0 1 lit")
        self.assertEqual(repr(told), repr([(1, 0, lay(1, (0, 1), 1, 0, 1, True))]))
        self.tells("1 1 gale 1", notices_text, SEA, numbered((1, ("gale", 1))))


class ChannelText(Asking):
    WRITTEN = {
        "-/-": ((), ()),
        "0/8": ((0,), (8,)),
        "012345678/-": (tuple(range(9)), ()),
        "-/0/-/13": ((), (0,), (), (1, 3)),
        "/".join(["-"] * 16): ((),) * 16,
        "/".join(["012345678"] * 16): (tuple(range(9)),) * 16,
        "024/13/7": ((0, 2, 4), (1, 3), (7,)),
    }

    def test_written_and_read(self):
        for text, channel in self.WRITTEN.items():
            self.tells(text, channel_text, channel)
            self.tells(channel, read_channel, text)

    def test_mixed(self):
        chance = random.Random(82)
        for repeat in range(300):
            channel = tuple(tuple(row for row in range(9) if chance.random() < 0.4)
                            for column in range(chance.randint(2, 16)))
            text = "/".join("".join(str(row) for row in rows) if rows else "-" for rows in channel)
            self.tells(text, channel_text, channel)
            self.tells(channel, read_channel, text)

    def test_no_channels(self):
        for thing in WHATEVER + (
            ((0,),), ((0,),) * 17, ((),) * 17, ((1, 0), ()), ((0, 0), ()), ((9,), ()), ((-1,), ()), ([0], ()), [(0,),
                                                                                                                ()],
            ((True,), ()), ((False, 1), ()), ((0, "1"), ()), ((0, None), ()), ("0", "1"), ((0,), None), ((0,), 1),
            {0: (), 1: ()}, ((FAR,), ()), "0/1", "-/-",
        ):
            if thing != ((), ()):
                self.refuses(NoChannel, channel_text, thing)

    def test_no_texts_of_channels(self):
        for thing in (
            "", "-", "0", "012345678", "/", "//", "-/", "/-", "0/", "/0", "0//1", "10/-", "00/-", "011/-", "021/-",
            "9/-",
            "0/9", "0129/-", "--/-", "0-/-", "-0/-", "0/ -", "0 /-", " 0/-", "0/- ", "0/-\n", "\n0/-", "0\n/-", "a/-",
            "0a/-", "0.1/-", "0,1/-", "0 1/-", "0/-\t", "0\\1", "0|1", "/".join(["-"] * 17), "/".join(["0"] * 17),
            "none", "/".join(["0"] * 500), "-/-/", "/-/-", "((), ())", "+0/-", "0/1/" + TOP, TOP + "/-",
        ):
            self.refuses_with(NoText, {"row": 0}, read_channel, thing)

    def test_whatever_is_no_text_of_a_channel(self):
        for thing in WHATEVER + (((), ()), ((0,), (1,)), ["0", "1"], ("-", "-"), {"-/-": 1}, ["-/-"], ("-/-",)):
            self.refuses_with(NoText, {"row": 0}, read_channel, thing)

    def test_all_short_texts(self):
        for signs in itertools.product("018-/ 9", repeat=4):
            text = "".join(signs)
            try:
                channel = read_channel(text)
            except NoText as error:
                self.assertEqual(error.row, 0)
            else:
                self.assertEqual(channel_text(channel), text)
                self.assertNotIn(" ", text)
                self.assertNotIn("9", text)


if __name__ == "__main__":
    unittest.main()
