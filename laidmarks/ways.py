"""Ways through a channel, and bars that show that there is none."""

from laidmarks.errors import NoChannel, NoNumber
from laidmarks.seas import LEAST_COLUMNS, MOST_COLUMNS
from laidmarks.wholes import are_rising_within, is_whole_within

LAST_ROW = 8


def is_row(thing):
    """Whether a thing of whatever kind is a row."""
    return is_whole_within(thing, 0, LAST_ROW)


def are_rows(thing):
    """Whether a thing of whatever kind is a rising tuple of rows."""
    return are_rising_within(thing, 0, LAST_ROW)


def is_channel(thing):
    """Whether a thing of whatever kind is a channel."""
    if not isinstance(thing, tuple) or not LEAST_COLUMNS <= len(thing) <= MOST_COLUMNS:
        return False
    return all([are_rows(rows) for rows in thing])


def check_channel(thing):
    """Refuse what is no channel."""
    if not is_channel(thing):
        raise NoChannel("this is no channel")


def rows_near(rows, row):
    """Of rising rows those that are unlike by at most one from a row."""
    return [other for other in rows if abs(other - row) <= 1]


def rows_beyond(rows, ahead):
    """Of rising rows those to which one comes from the rows ahead: a rising tuple."""
    return tuple([row for row in rows if rows_near(ahead, row)])


def rows_reached(channel):
    """The rows to which ways from the first column lead, up to the first column with none."""
    reached = [channel[0]]
    for rows in channel[1:]:
        if reached[-1]:
            reached.append(rows_beyond(rows, reached[-1]))
    return reached


def ways_onward(channel):
    """For each column a dict: from each of its rows, how many ways lead on to the last column."""
    onward = [{row: 1 for row in channel[-1]}]
    for rows in reversed(channel[:-1]):
        inward = onward[-1]
        onward.append({row: sum([inward[other] for other in rows_near(list(inward), row)]) for row in rows})
    onward.reverse()
    return onward


def is_way(channel, thing):
    """Whether a thing of whatever kind is a way; NoChannel."""
    check_channel(channel)
    if not isinstance(thing, tuple) or len(thing) != len(channel):
        return False
    # True and False are like 1 and 0 to Python, but they are no rows.
    if not all([is_row(row) and row in rows for row, rows in zip(thing, channel)]):
        return False
    return all([abs(row - ahead) <= 1 for ahead, row in zip(thing, thing[1:])])


def many_ways(channel):
    """How many ways there are; NoChannel."""
    check_channel(channel)
    return sum(ways_onward(channel)[0].values())


def row_at(onward, rows, place):
    """The row of the way with this place among those by these rows, and the way's place among those by that row."""
    at = 0
    left = place
    while left >= onward[rows[at]]:
        left -= onward[rows[at]]
        at += 1
    return (rows[at], left)


def way_with(channel, place):
    """The way with this place in the order of all ways; there is one."""
    way = []
    left = place
    for rows, onward in zip(channel, ways_onward(channel)):
        choices = rows_near(rows, way[-1]) if way else rows
        row, left = row_at(onward, choices, left)
        way.append(row)
    return tuple(way)


def way_at(channel, place):
    """The way with a told place in the order of all ways; NoChannel, NoNumber."""
    if not is_whole_within(place, 0, many_ways(channel) - 1):
        raise NoNumber("there is no way with this place")
    return way_with(channel, place)


def least_way(channel):
    """The least way, None where there is none; NoChannel."""
    if many_ways(channel) == 0:
        return None
    return way_with(channel, 0)


def step_on(inward, row):
    """Of the rows inward that of the next step with the fewest bends from here on: (bends, row), or None.

    Of several it is the least. inward tells for each row there the fewest bends from there on.
    """
    steps = [(inward[other] + (1 if other != row else 0), other) for other in rows_near(list(inward), row)]
    return min(steps, default=None)


def bends_onward(channel):
    """For each column a dict: of each of its rows from which a way leads on, the fewest bends to the last column."""
    onward = [{row: 0 for row in channel[-1]}]
    for rows in reversed(channel[:-1]):
        bends = {}
        for row in rows:
            step = step_on(onward[-1], row)
            if step is not None:
                bends[row] = step[0]
        onward.append(bends)
    onward.reverse()
    return onward


def straightest(channel):
    """The way with the fewest bends, of several the least, None where there is none; NoChannel."""
    check_channel(channel)
    onward = bends_onward(channel)
    if not onward[0]:
        return None
    fewest, start = min([(bends, row) for row, bends in onward[0].items()])
    way = [start]
    for inward in onward[1:]:
        way.append(step_on(inward, way[-1])[1])
    return tuple(way)


def has_form_of_bar(channel, thing):
    """Whether a thing of whatever kind has rows for columns from the first one on, for the last one alone none."""
    if not isinstance(thing, tuple) or not 1 <= len(thing) <= len(channel):
        return False
    if not all([are_rows(rows) for rows in thing]):
        return False
    return all(thing[:-1]) and not thing[-1]


def has_all(rows, needed):
    """Whether all rows that are needed are among these."""
    return all([row in rows for row in needed])


def is_bar(channel, thing):
    """Whether a thing of whatever kind is a bar; NoChannel."""
    check_channel(channel)
    if not has_form_of_bar(channel, thing):
        return False
    if not has_all(thing[0], channel[0]):
        return False
    for ahead, rows, column in zip(thing, thing[1:], channel[1:]):
        if not has_all(rows, rows_beyond(column, ahead)):
            return False
    return True


def bar_of(channel):
    """The bar of the rows to which ways lead, None where there is a way; NoChannel."""
    check_channel(channel)
    reached = rows_reached(channel)
    if reached[-1]:
        return None
    return tuple(reached)


def gates(channel):
    """For each column the least and the greatest row of ways, None where there is no way; NoChannel."""
    check_channel(channel)
    reached = rows_reached(channel)
    if not reached[-1]:
        return None
    told = []
    for rows, onward in zip(reached, ways_onward(channel)):
        passed = [row for row in rows if onward[row] > 0]
        told.append((passed[0], passed[-1]))
    return told
