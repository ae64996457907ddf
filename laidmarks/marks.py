"""Where the marks are and how deep the sea is on each day, as the held notices tell it."""

from laidmarks.notices import check_held, check_mark, check_notices
from laidmarks.seas import LAST_DAY, check_day, drift, is_water


class Chart:
    """What the notices that were gone through tell: the depths, and the marks that aren't ashore.

    A mark at its place is kept with its cell, look and sinker, one adrift with the cell and the day from which it
    drifts and its look. One that is kept in neither way is ashore.
    """

    def __init__(self, sea):
        self.sea = sea
        self.placed = {}
        self.adrift = {}
        self.undone = []


def is_ashore(chart, mark):
    """Whether a mark is ashore."""
    return mark not in chart.placed and mark not in chart.adrift


def cells_adrift(chart, mark, day):
    """The cells in which a mark that is adrift can be on a day, by the depths of the chart."""
    cell, look, since = chart.adrift[mark]
    return drift(chart.sea, cell, day - since)


def with_depth(sea, cell, depth):
    """The sea with another depth at one cell."""
    column, row = cell
    depths = list(sea[column])
    depths[row] = depth
    return sea[:column] + (tuple(depths),) + sea[column + 1:]


def lay(chart, day, parts):
    """Lay a mark, and tell whether that could be done."""
    mark, cell, shape, colour, sinker, lit = parts
    if not is_ashore(chart, mark) or not is_water(chart.sea, cell):
        return False
    chart.placed[mark] = (cell, (shape, colour, lit), sinker)
    return True


def lift(chart, day, parts):
    """Take a mark ashore, and tell whether that could be done."""
    mark = parts[0]
    if is_ashore(chart, mark):
        return False
    chart.placed.pop(mark, None)
    chart.adrift.pop(mark, None)
    return True


def blow(chart, day, parts):
    """Let a gale drag off the marks that it can; that can always be done."""
    strength = parts[0]
    for mark in list(chart.placed):
        cell, look, sinker = chart.placed[mark]
        if sinker < strength:
            chart.placed.pop(mark)
            chart.adrift[mark] = (cell, look, day)
    return True


def see(chart, day, parts):
    """Let a mark be seen, and tell whether that could be done."""
    mark, cell = parts
    if mark not in chart.adrift or cell not in cells_adrift(chart, mark, day):
        return False
    old_cell, look, since = chart.adrift[mark]
    chart.adrift[mark] = (cell, look, day)
    return True


def deepen(chart, day, parts):
    """Give a cell another depth; that can always be done."""
    cell, depth = parts
    chart.sea = with_depth(chart.sea, cell, depth)
    return True


DOINGS = {"lay": lay, "lift": lift, "gale": blow, "seen": see, "depth": deepen}


def in_order(notices, held):
    """The held notices, each once, in the order in which they are gone through."""
    by_number = {notice[0]: notice for notice in notices if notice[0] <= held}
    return sorted(by_number.values(), key=lambda notice: (notice[1], notice[0]))


def chart_behind(sea, notices, held, last_day):
    """The chart behind all held notices of this day and of days ahead."""
    chart = Chart(sea)
    for number, day, deed in in_order(notices, held):
        if day <= last_day:
            do_deed = DOINGS[deed[0]]
            if not do_deed(chart, day, deed[1:]):
                chart.undone.append(number)
    return chart


def chart_of(sea, notices, held, day):
    """The chart of a day; NoSea, NoNotices, NoNumber, NoDay."""
    check_notices(sea, notices)
    check_held(held)
    check_day(day)
    return chart_behind(sea, notices, held, day)


def places_of(chart):
    """The rising list of the tuples (mark, cell, look) of all marks that are at a place."""
    return sorted([(mark, cell, look) for mark, (cell, look, sinker) in chart.placed.items()])


def places_shown(chart, night):
    """Of these the ones that show: all by day, by night those that are lit."""
    return [(mark, cell, look) for mark, cell, look in places_of(chart) if look[2] or not night]


def void(sea, notices, held):
    """The rising list of the numbers of the void notices; NoSea, NoNotices, NoNumber."""
    check_notices(sea, notices)
    check_held(held)
    return sorted(chart_behind(sea, notices, held, LAST_DAY).undone)


def sea_of(sea, notices, held, day):
    """The sea of a day; NoSea, NoNotices, NoNumber, NoDay."""
    return chart_of(sea, notices, held, day).sea


def mark_at(sea, notices, held, day, mark):
    """Where a mark is on a day; NoSea, NoNotices, NoNumber, NoDay, NoMark."""
    chart = chart_of(sea, notices, held, day)
    check_mark(mark)
    if mark in chart.adrift:
        return ("adrift", cells_adrift(chart, mark, day))
    if mark in chart.placed:
        return ("at", chart.placed[mark][0])
    return ("ashore",)


def standing(sea, notices, held, day):
    """The rising list of (mark, cell, look) of marks at a place; NoSea, NoNotices, NoNumber, NoDay."""
    return places_of(chart_of(sea, notices, held, day))
