"""The sea: its depths by columns and rows, its banks, and what drifts in it."""

from laidmarks.errors import NoCell, NoDay, NoDraught, NoSea
from laidmarks.wholes import is_whole_within

LEAST_COLUMNS = 2
MOST_COLUMNS = 16
LEAST_ROWS = 1
MOST_ROWS = 9
LAND = 0
MOST_DEPTH = 9
LEAST_DRAUGHT = 1
MOST_DRAUGHT = 9
LAST_DAY = 400


def is_depth(thing):
    """Whether a thing of whatever kind is a depth."""
    return is_whole_within(thing, LAND, MOST_DEPTH)


def is_draught(thing):
    """Whether a thing of whatever kind is a draught."""
    return is_whole_within(thing, LEAST_DRAUGHT, MOST_DRAUGHT)


def is_day(thing):
    """Whether a thing of whatever kind is a day; a number of days has the same bounds."""
    return is_whole_within(thing, 0, LAST_DAY)


def is_column(thing):
    """Whether a thing of whatever kind can be one column of a sea."""
    if not isinstance(thing, tuple) or not LEAST_ROWS <= len(thing) <= MOST_ROWS:
        return False
    return all([is_depth(depth) for depth in thing])


def is_sea(thing):
    """Whether a thing of whatever kind is a sea."""
    if not isinstance(thing, tuple) or not LEAST_COLUMNS <= len(thing) <= MOST_COLUMNS:
        return False
    if not all([is_column(column) for column in thing]):
        return False
    return all([len(column) == len(thing[0]) for column in thing])


def is_cell(sea, thing):
    """Whether a thing of whatever kind is a cell of the sea."""
    if not isinstance(thing, tuple) or len(thing) != 2:
        return False
    column, row = thing
    return is_whole_within(column, 0, len(sea) - 1) and is_whole_within(row, 0, len(sea[0]) - 1)


def check_sea(thing):
    """Refuse what is no sea."""
    if not is_sea(thing):
        raise NoSea("this is no sea")


def check_cell(sea, thing):
    """Refuse what is no cell of the sea."""
    if not is_cell(sea, thing):
        raise NoCell("this is no cell of the sea")


def check_draught(thing):
    """Refuse what is no draught."""
    if not is_draught(thing):
        raise NoDraught("this is no draught")


def check_day(thing):
    """Refuse what is no day, or no number of days."""
    if not is_day(thing):
        raise NoDay("this is no day")


def depth_at(sea, cell):
    """The depth of a cell of the sea."""
    column, row = cell
    return sea[column][row]


def is_water(sea, cell):
    """Whether a cell of the sea is water."""
    return depth_at(sea, cell) != LAND


def is_shoal(sea, cell, draught):
    """Whether a cell of the sea is a bank for a draught."""
    return depth_at(sea, cell) < draught


def is_bank(sea, cell, draught):
    """Whether the cell is a bank for the draught; NoSea, NoCell, NoDraught."""
    check_sea(sea)
    check_cell(sea, cell)
    check_draught(draught)
    return is_shoal(sea, cell, draught)


def waters_beside(sea, cell):
    """The neighbours of a cell that are water."""
    column, row = cell
    beside = [(column - 1, row), (column, row - 1), (column, row + 1), (column + 1, row)]
    return [other for other in beside if is_cell(sea, other) and is_water(sea, other)]


def one_step_on(sea, edge, reached):
    """The cells of water one step beyond the edge; they are put to the reached ones."""
    beyond = []
    for cell in edge:
        for other in waters_beside(sea, cell):
            if other not in reached:
                reached[other] = True
                beyond.append(other)
    return beyond


def drift(sea, cell, days):
    """The rising tuple of cells to which one drifts in so many days; NoSea, NoCell, NoDay."""
    check_sea(sea)
    check_cell(sea, cell)
    check_day(days)
    if not is_water(sea, cell):
        return (cell,)
    reached = {cell: True}
    edge = [cell]
    left = days
    while edge and left > 0:
        edge = one_step_on(sea, edge, reached)
        left -= 1
    return tuple(sorted(reached))
