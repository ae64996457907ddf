"""Looks: which marks look alike, and which drifted marks sightings can be."""

from laidmarks.errors import NoNumber, NoSightings
from laidmarks.marks import cells_adrift, chart_of, places_shown
from laidmarks.notices import is_colour, is_shape
from laidmarks.seas import is_cell
from laidmarks.wholes import is_whole_within

MOST_SIGHT = 15
MOST_SIGHTINGS = 6


def check_sight(thing):
    """Refuse what is no sight."""
    if not is_whole_within(thing, 0, MOST_SIGHT):
        raise NoNumber("this is no sight")


def are_within(cell, other, sight):
    """Whether two cells are within a sight."""
    return abs(cell[0] - other[0]) <= sight and abs(cell[1] - other[1]) <= sight


def alike(sea, notices, held, day, night, sight):
    """The rising list of the pairs of marks that look alike within a sight.

    NoSea, NoNotices, NoNumber, NoDay, then NoNumber of the sight.
    """
    chart = chart_of(sea, notices, held, day)
    check_sight(sight)
    shown = places_shown(chart, night)
    pairs = []
    for mark, cell, look in shown:
        for other, other_cell, other_look in shown:
            if mark < other and look == other_look and are_within(cell, other_cell, sight):
                pairs.append((mark, other))
    return pairs


def is_look(thing):
    """Whether a thing of whatever kind is a look."""
    if not isinstance(thing, tuple) or len(thing) != 3:
        return False
    shape, colour, lit = thing
    return is_shape(shape) and is_colour(colour) and isinstance(lit, bool)


def is_sighting(sea, thing):
    """Whether a thing of whatever kind is a sighting with a cell of the sea."""
    if not isinstance(thing, tuple) or len(thing) != 2:
        return False
    return is_cell(sea, thing[0]) and is_look(thing[1])


def check_sightings(sea, thing):
    """Refuse what are no sightings with cells of the sea."""
    if not isinstance(thing, list) or len(thing) > MOST_SIGHTINGS:
        raise NoSightings("these are no sightings")
    if not all([is_sighting(sea, sighting) for sighting in thing]):
        raise NoSightings("one of these is no sighting of the sea")


def marks_for(chart, day, sighting):
    """The rising list of the marks that a sighting can be."""
    cell, look = sighting
    told = []
    for mark in sorted(chart.adrift):
        if chart.adrift[mark][1] == look and cell in cells_adrift(chart, mark, day):
            told.append(mark)
    return told


def marks_for_each(sea, notices, held, day, sightings):
    """For each sighting the marks that it can be; NoSea, NoNotices, NoNumber, NoDay, NoSightings."""
    chart = chart_of(sea, notices, held, day)
    check_sightings(sea, sightings)
    return [marks_for(chart, day, sighting) for sighting in sightings]


def one_more(chosen, many):
    """All rising tuples of numbers below many that have one more behind one of the chosen tuples, rising."""
    return [numbers + (at,) for numbers in chosen for at in range(many) if not numbers or numbers[-1] < at]


def lacking_of(choices):
    """The least of the fewest sightings that have too few marks among their choices, None where there are none."""
    chosen = [()]
    while chosen:
        chosen = one_more(chosen, len(choices))
        for numbers in chosen:
            if len({mark for at in numbers for mark in choices[at]}) < len(numbers):
                return numbers
    return None


def can_be_given(choices, at, mark):
    """Whether the sighting at this number can be given the mark, and each other one another mark."""
    others = choices[:at] + choices[at + 1:]
    # Each has a mark of its own just where no sightings together have too few.
    return lacking_of([[other for other in marks if other != mark] for marks in others]) is None


def can_be(sea, notices, held, day, sightings):
    """For each sighting the marks that it is in some giving, None where there is no giving.

    NoSea, NoNotices, NoNumber, NoDay, NoSightings.
    """
    choices = marks_for_each(sea, notices, held, day, sightings)
    if lacking_of(choices) is not None:
        return None
    told = []
    for at, marks in enumerate(choices):
        told.append(tuple([mark for mark in marks if can_be_given(choices, at, mark)]))
    return told


def lacking(sea, notices, held, day, sightings):
    """The numbers of the sightings that show that there is no giving, None where there is one.

    NoSea, NoNotices, NoNumber, NoDay, NoSightings.
    """
    return lacking_of(marks_for_each(sea, notices, held, day, sightings))
