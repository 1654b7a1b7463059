"""The least form: all the shifts that change nothing in a pattern, and the field that makes the whole by them."""

from motiffield.cells import field_rows, round_row, row_from


def measures(number):
    """The whole numbers from 1 on that measure a number, the least first."""
    return [part for part in range(1, number + 1) if number % part == 0]


def changes_nothing(family, rows, x, y):
    """Whether the shift (x, y) changes nothing in the pattern that has these rows in the family's field."""
    for step, row in enumerate(rows):
        if round_row(family, rows, x, y + step) != row:
            return False
    return True


def least_width(family, rows):
    """The least shift rightwards that changes nothing."""
    # Each level shift that changes nothing is some whole times the least one, the family's width too.
    return min([width for width in measures(family[0]) if changes_nothing(family, rows, width, 0)])


def slant_at(family, rows, width, height):
    """The slant, below the width, of a shift that changes nothing and goes so far down; None where there is none."""
    for slant in range(width):
        if changes_nothing(family, rows, slant, height):
            return slant
    return None


def least_shifts(pattern):
    """The family of all shifts that change nothing in the pattern."""
    family = pattern.shifts
    rows = field_rows(pattern)
    width = least_width(family, rows)
    # How far down the shifts go that change nothing has a least measure too, which measures the family's height.
    height = min([part for part in measures(family[1]) if slant_at(family, rows, width, part) is not None])
    return (width, height, slant_at(family, rows, width, height))


def least_form(pattern):
    """The three numbers of the least shifts, and the rows of their field."""
    family = least_shifts(pattern)
    rows = [row_from(pattern, 0, y, family[0]) for y in range(family[1])]
    return (family[0], family[1], family[2], tuple(rows))
