"""Texts: how notices and channels are written, and read again."""

from laidmarks.errors import NoText
from laidmarks.notices import MOST_NOTICES, check_notices, is_notice
from laidmarks.seas import check_sea
from laidmarks.ways import check_channel, is_channel

FIGURES = "0123456789"
MOST_FIGURES = 20


def number_in(text):
    """The whole number that a text writes, None where it writes none."""
    if not 1 <= len(text) <= MOST_FIGURES or not all([sign in FIGURES for sign in text]):
        return None
    if text[0] == "0" and text != "0":
        return None
    return int(text)


def cell_text(cell):
    """A cell as it is written."""
    column, row = cell
    return f"{column}.{row}"


def part_text(part):
    """A deed's word, or one of its parts, as it is written."""
    if isinstance(part, bool):
        return "lit" if part else "dark"
    if isinstance(part, tuple):
        return cell_text(part)
    return str(part)


def notice_text(notice):
    """A notice as it is written."""
    number, day, deed = notice
    return " ".join([str(number), str(day)] + [part_text(part) for part in deed])


def notices_text(sea, notices):
    """The text of notices of a sea; NoSea, NoNotices."""
    check_notices(sea, notices)
    by_number = {notice[0]: notice for notice in notices}
    return "\n".join([notice_text(by_number[number]) for number in sorted(by_number)])


def part_in(word):
    """The part of a deed that a word writes; what is no part of any deed where it writes none."""
    if word == "lit" or word == "dark":
        return word == "lit"
    if "." in word:
        return tuple([number_in(figures) for figures in word.split(".")])
    return number_in(word)


def notice_in(sea, line):
    """The notice of the sea that a line writes, None where it writes none."""
    words = line.split(" ")
    if len(words) < 3:
        return None
    deed = (words[2],) + tuple([part_in(word) for word in words[3:]])
    notice = (number_in(words[0]), number_in(words[1]), deed)
    return notice if is_notice(sea, notice) else None


def read_notices(sea, text):
    """The rising list of the notices that a text writes; NoSea, NoText."""
    check_sea(sea)
    if not isinstance(text, str):
        raise NoText(0)
    lines = text.split("\n") if text else []
    told = []
    for at, line in enumerate(lines):
        notice = notice_in(sea, line)
        if at >= MOST_NOTICES or notice is None:
            raise NoText(at + 1)
        # A greater notice with the same number is wrong too, so that the number alone decides.
        if told and notice[0] <= told[-1][0]:
            raise NoText(at + 1)
        told.append(notice)
    return told


def rows_text(rows):
    """Rows one behind the other, as they are written."""
    return "".join([str(row) for row in rows]) or "-"


def columns_text(columns):
    """Columns of rows as a channel's are written, however many they are."""
    return "/".join([rows_text(rows) for rows in columns])


def channel_text(channel):
    """The text of a channel; NoChannel."""
    check_channel(channel)
    return columns_text(channel)


def rows_in(word):
    """The rows that a word writes; what are no rows where it writes none."""
    if word == "-":
        return ()
    return tuple([number_in(figure) for figure in word]) or None


def read_channel(text):
    """The channel that a text writes; NoText."""
    if not isinstance(text, str):
        raise NoText(0)
    channel = tuple([rows_in(word) for word in text.split("/")])
    if not is_channel(channel):
        raise NoText(0)
    return channel
