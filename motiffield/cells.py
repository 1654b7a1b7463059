"""The cells of a pattern, however far."""

from motiffield.errors import TooFar
from motiffield.forms import SIGNS
from motiffield.shifts import home
from motiffield.sizes import FAR


def refuse_far(x, y):
    """Refuses a cell that is too far."""
    if max(abs(x), abs(y)) > FAR:
        raise TooFar("the cell is too far")


def cell_at(pattern, x, y):
    """What the cell (x, y) shows: a hue from 1 to 6, or 0 for a gap."""
    refuse_far(x, y)
    return pattern.form.shows(x, y)


def row_from(pattern, x, y, many):
    """The signs of so many cells from (x, y) on rightwards, as one text."""
    return "".join([SIGNS[cell_at(pattern, x + step, y)] for step in range(many)])


def field_rows(pattern):
    """The rows of the field of the text's family, from above, as texts."""
    return [row_from(pattern, 0, y, pattern.shifts[0]) for y in range(pattern.shifts[1])]


def round_row(family, rows, x, y):
    """As many signs as the family is wide, from (x, y) on rightwards, by the rows of its field."""
    # Brought home first: the row may go on beyond what is too far.
    cell = home(family, x, y)
    row = rows[cell[1]]
    return row[cell[0]:] + row[:cell[0]]
