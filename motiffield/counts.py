"""How many cells of each hue lie in a rectangle, however great."""

from motiffield.cells import field_rows, refuse_far, round_row
from motiffield.forms import SIGNS


def count_sign(row, sign, many):
    """How often a sign stands among so many signs of a row that begins anew wherever it ends."""
    return many // len(row) * row.count(sign) + row[:many % len(row)].count(sign)


def count_all(pattern, left, top, right, bottom):
    """How many cells of the rectangle are gaps, and how many show each hue from 1 to 6."""
    refuse_far(left, top)
    refuse_far(right, bottom)
    family = pattern.shifts
    rows = field_rows(pattern)
    many = max(right - left + 1, 0)
    # So far straight down the rows are the same again: width times the family's slanting shift.
    again = family[0] * family[1]
    counts = [0 for sign in SIGNS]
    for y in range(top, min(bottom + 1, top + again)):
        times = (bottom - y) // again + 1
        row = round_row(family, rows, left, y)
        for hue, sign in enumerate(SIGNS):
            counts[hue] = counts[hue] + times * count_sign(row, sign, many)
    return counts


def count_hue(pattern, hue, left, top, right, bottom):
    """How many cells of the rectangle show the hue, or are gaps where it is 0."""
    counts = count_all(pattern, left, top, right, bottom)
    # No cell shows a hue beyond the range; an index below nought would tell another hue's number.
    return counts[hue] if 0 <= hue < len(counts) else 0
