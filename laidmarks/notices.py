"""Notices: what is told of marks, gales and depths, each with a number and a day."""

from laidmarks.errors import NoMark, NoNotices, NoNumber
from laidmarks.seas import check_sea, is_cell, is_day, is_depth
from laidmarks.wholes import is_whole_within

LAST_NUMBER = 99
LAST_MARK = 12
MOST_NOTICES = 30


def is_number(thing):
    """Whether a thing of whatever kind is a number that a notice can have."""
    return is_whole_within(thing, 1, LAST_NUMBER)


def is_mark(thing):
    """Whether a thing of whatever kind is a mark."""
    return is_whole_within(thing, 1, LAST_MARK)


def is_shape(thing):
    """Whether a thing of whatever kind is a shape."""
    return is_whole_within(thing, 0, 2)


def is_colour(thing):
    """Whether a thing of whatever kind is a colour."""
    return is_whole_within(thing, 0, 2)


def is_sinker(thing):
    """Whether a thing of whatever kind is a sinker."""
    return is_whole_within(thing, 1, 9)


def is_strength(thing):
    """Whether a thing of whatever kind is a gale's strength."""
    return is_whole_within(thing, 1, 9)


def lays(sea, parts):
    """Whether these are the parts of a mark's laying."""
    if len(parts) != 6:
        return False
    mark, cell, shape, colour, sinker, lit = parts
    if not is_mark(mark) or not is_cell(sea, cell):
        return False
    return is_shape(shape) and is_colour(colour) and is_sinker(sinker) and isinstance(lit, bool)


def lifts(sea, parts):
    """Whether these are the parts of a mark's lifting; any sea will do."""
    return len(parts) == 1 and is_mark(parts[0])


def blows(sea, parts):
    """Whether these are the parts of a gale; any sea will do."""
    return len(parts) == 1 and is_strength(parts[0])


def sees(sea, parts):
    """Whether these are the parts of a mark's being seen."""
    return len(parts) == 2 and is_mark(parts[0]) and is_cell(sea, parts[1])


def deepens(sea, parts):
    """Whether these are the parts of a change of depth."""
    return len(parts) == 2 and is_cell(sea, parts[0]) and is_depth(parts[1])


DEEDS = {"lay": lays, "lift": lifts, "gale": blows, "seen": sees, "depth": deepens}


def is_deed(sea, thing):
    """Whether a thing of whatever kind is a deed with cells of the sea."""
    if not isinstance(thing, tuple) or not thing:
        return False
    word = thing[0]
    # A list or a dict can't even be looked for among the words.
    if not isinstance(word, str) or word not in DEEDS:
        return False
    are_parts = DEEDS[word]
    return are_parts(sea, thing[1:])


def is_notice(sea, thing):
    """Whether a thing of whatever kind is a notice with cells of the sea."""
    if not isinstance(thing, tuple) or len(thing) != 3:
        return False
    number, day, deed = thing
    return is_number(number) and is_day(day) and is_deed(sea, deed)


def are_notices(sea, thing):
    """Whether a thing of whatever kind are notices of the sea; NoSea."""
    check_sea(sea)
    if not isinstance(thing, list) or len(thing) > MOST_NOTICES:
        return False
    by_number = {}
    for notice in thing:
        if not is_notice(sea, notice):
            return False
        if by_number.setdefault(notice[0], notice) != notice:
            return False
    return True


def check_notices(sea, thing):
    """Refuse what is no sea, and what are no notices of it."""
    if not are_notices(sea, thing):
        raise NoNotices("these are no notices of the sea")


def check_held(thing):
    """Refuse what is no number to which notices can be held."""
    if not is_whole_within(thing, 0, LAST_NUMBER):
        raise NoNumber("this is no number to which notices are held")


def check_mark(thing):
    """Refuse what is no mark."""
    if not is_mark(thing):
        raise NoMark("this is no mark")
