"""Two patterns: whether they are one, their common field, and where they part."""

from motiffield.cells import cell_at
from motiffield.errors import TooGreat
from motiffield.least import least_form, least_shifts
from motiffield.shifts import met
from motiffield.sizes import MOST


def one_pattern(one, two):
    """Whether each cell, however far, shows the same in both patterns."""
    return least_form(one) == least_form(two)


def common_field(one, two):
    """The family of the shifts that change nothing in either of two patterns."""
    family = met(least_shifts(one), least_shifts(two))
    if family[0] * family[1] > MOST:
        raise TooGreat("the common family of the two patterns has too many cells")
    return family


def first_unlike(one, two, width, height):
    """The first cell by rows, x from 0 to below width and y from 0 to below height, that is unlike; or None."""
    for y in range(height):
        for x in range(width):
            if cell_at(one, x, y) != cell_at(two, x, y):
                return (x, y)
    return None


def first_parting(one, two):
    """The first cell by rows of the common field where two patterns part; None where they are one."""
    family = common_field(one, two)
    return first_unlike(one, two, family[0], family[1])
