"""The forms that a good text is made of: what family each has, and what each of its cells shows.

Each form has the same two methods: family tells its family of shifts, and shows tells a cell's hue, 0 for a gap.
"""

from motiffield.errors import OneLine
from motiffield.shifts import home, met, mirrored, spread, turned

# The signs of a gap and of the hues from 1 to 6, each at the place of its number.
SIGNS = ".123456"


def hues_by_home(lines, family):
    """The hues of a motif's signs, each under the cell of the family's field where it shows; gaps are left out."""
    hues = {}
    for row, line in enumerate(lines):
        for column, sign in enumerate(line):
            if sign != ".":
                # The first sign by rows shows, so one that is there already stays.
                hues.setdefault(home(family, column, row), SIGNS.index(sign))
    return hues


class Motif:
    """Rows of signs, set anew by each sum of two shifts; place tells where it begins in the text."""

    def __init__(self, place, lines, first, second):
        self.place = place
        self.shifts = spread(first, second)
        # A motif along one line is refused by its family, and no cell of it is ever asked for.
        self.hues = {} if self.shifts is None else hues_by_home(lines, self.shifts)

    def family(self):
        if self.shifts is None:
            raise OneLine(self.place)
        return self.shifts

    def shows(self, x, y):
        return self.hues.get(home(self.shifts, x, y), 0)


class Over:
    """One form laid over another."""

    def __init__(self, above, below):
        self.above = above
        self.below = below

    def family(self):
        # The one above is asked first: of several motifs along one line the first in the text is refused.
        first = self.above.family()
        return met(first, self.below.family())

    def shows(self, x, y):
        hue = self.above.shows(x, y)
        return self.below.shows(x, y) if hue == 0 else hue


class Shifted:
    """A form shifted by (x, y)."""

    def __init__(self, form, x, y):
        self.form = form
        self.x = x
        self.y = y

    def family(self):
        return self.form.family()

    def shows(self, x, y):
        return self.form.shows(x - self.x, y - self.y)


class Mirror:
    """A form mirrored, left for right."""

    def __init__(self, form):
        self.form = form

    def family(self):
        return mirrored(self.form.family())

    def shows(self, x, y):
        return self.form.shows(-x, y)


class Turn:
    """A form turned by a quarter."""

    def __init__(self, form):
        self.form = form

    def family(self):
        return turned(self.form.family())

    def shows(self, x, y):
        return self.form.shows(y, -x)


class Rehue:
    """A form with the hue new for the hue old."""

    def __init__(self, form, old, new):
        self.form = form
        self.old = old
        self.new = new

    def family(self):
        return self.form.family()

    def shows(self, x, y):
        hue = self.form.shows(x, y)
        return self.new if hue == self.old else hue
