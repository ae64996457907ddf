"""The channel: the rows of each column at which a ship may pass."""

from laidmarks.marks import chart_of, places_shown
from laidmarks.seas import check_cell, check_draught, is_shoal

PASSED_AT_GREATER_ROWS = 0
PASSED_AT_LESSER_ROWS = 1


def is_wrong(row, mark_row, shape):
    """Whether a row is wrong for a mark of this shape that is at its row of the same column."""
    if shape == PASSED_AT_GREATER_ROWS:
        return row <= mark_row
    if shape == PASSED_AT_LESSER_ROWS:
        return row >= mark_row
    return row == mark_row


def marks_against(places, cell):
    """The rising tuple of those marks of these places for which the cell's row is wrong."""
    column, row = cell
    against = []
    for mark, (mark_column, mark_row), (shape, colour, lit) in places:
        if mark_column == column and is_wrong(row, mark_row, shape):
            against.append(mark)
    return tuple(against)


def free_rows(sea, places, draught, column):
    """The rising tuple of the rows of a column at which a ship may pass."""
    told = []
    for row in range(len(sea[column])):
        cell = (column, row)
        if not is_shoal(sea, cell, draught) and not marks_against(places, cell):
            told.append(row)
    return tuple(told)


def channel_of(sea, notices, held, day, draught, night):
    """The channel of a draught; NoSea, NoNotices, NoNumber, NoDay, NoDraught."""
    chart = chart_of(sea, notices, held, day)
    check_draught(draught)
    places = places_shown(chart, night)
    return tuple([free_rows(chart.sea, places, draught, column) for column in range(len(sea))])


def barred(sea, notices, held, day, draught, night, cell):
    """What bars a cell: (is_bank, marks); NoSea, NoNotices, NoNumber, NoDay, NoDraught, NoCell."""
    chart = chart_of(sea, notices, held, day)
    check_draught(draught)
    check_cell(sea, cell)
    return (is_shoal(chart.sea, cell, draught), marks_against(places_shown(chart, night), cell))
