"""A fairway: the marks that keep a ship to it, and papers which show that fewer don't."""

from laidmarks.channels import channel_of
from laidmarks.errors import NoColumns, NoFairway, NoSide
from laidmarks.ways import is_way
from laidmarks.wholes import are_rising_within, is_whole_within

STEPS_OUT = {"upper": -1, "lower": 1}


def edge_of(rows, row, step):
    """The last of these rows to which one comes from a row by this step, in one piece."""
    edge = row
    while edge + step in rows:
        edge += step
    return edge


def lane_of(sea, draught, fairway, side):
    """For each column how far out on a side the fairway's row and the edge of the fair water are.

    Farther out is always greater, so that the two sides are reckoned alike. NoSea, NoDraught, NoFairway, NoSide.
    """
    # Without notices the channel has just the rows that are no banks, and a fairway is a way through it.
    channel = channel_of(sea, [], 0, 0, draught, False)
    if not is_way(channel, fairway):
        raise NoFairway("this is no fairway")
    if not isinstance(side, str) or side not in STEPS_OUT:
        raise NoSide("this is no side of a fairway")
    step = STEPS_OUT[side]
    return [(row * step, edge_of(rows, row, step) * step) for row, rows in zip(fairway, channel)]


def keeps(sea, draught, fairway, side, columns):
    """Whether marks in these columns keep the fairway on a side; NoSea, NoDraught, NoFairway, NoSide, NoColumns."""
    lane = lane_of(sea, draught, fairway, side)
    if not are_rising_within(columns, 1, len(lane) - 1):
        raise NoColumns("these are no columns for marks")
    out = lane[0][0]
    for column in range(1, len(lane)):
        middle, edge = lane[column]
        # No ship is farther out than one that goes outward wherever no mark forbids it.
        out = middle if column in columns else out + 1
        if out > edge:
            return False
    return True


def columns_wanted(lane):
    """The columns of a lane where without a mark a ship could be wrong, going inward."""
    wanted = []
    out = lane[0][0]
    for column in range(1, len(lane)):
        middle, edge = lane[column]
        out += 1
        if out > edge:
            wanted.append(column)
            out = middle
    return wanted


def least_columns(sea, draught, fairway, side):
    """The columns of as few marks as keep the fairway on a side; NoSea, NoDraught, NoFairway, NoSide."""
    return tuple(columns_wanted(lane_of(sea, draught, fairway, side)))


def can_be_wrong(lane, start, end):
    """Whether a ship that was at the fairway's row ahead of start could be wrong in end, with no mark between."""
    out = lane[start - 1][0] + end - start + 1
    return out > lane[end][1]


def start_of_stretch(lane, end):
    """Where the stretch that ends in this column begins, None where none ends there."""
    return max([start for start in range(1, end + 1) if can_be_wrong(lane, start, end)], default=None)


def is_stretch(lane, thing):
    """Whether a thing of whatever kind is a stretch."""
    if not isinstance(thing, tuple) or len(thing) != 2:
        return False
    start, end = thing
    if not is_whole_within(end, 1, len(lane) - 1) or not is_whole_within(start, 1, end):
        return False
    return start == start_of_stretch(lane, end)


def is_paper(sea, draught, fairway, side, thing):
    """Whether a thing of whatever kind is a paper for a side; NoSea, NoDraught, NoFairway, NoSide."""
    lane = lane_of(sea, draught, fairway, side)
    if not isinstance(thing, tuple) or not all([is_stretch(lane, stretch) for stretch in thing]):
        return False
    return all([ahead[1] < stretch[0] for ahead, stretch in zip(thing, thing[1:])])


def paper_of(sea, draught, fairway, side):
    """The paper with the stretches that end in the least columns; NoSea, NoDraught, NoFairway, NoSide."""
    lane = lane_of(sea, draught, fairway, side)
    return tuple([(start_of_stretch(lane, column), column) for column in columns_wanted(lane)])
