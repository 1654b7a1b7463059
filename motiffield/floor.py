"""The floor: laid row by row from a text that may be changed, with deeds that can be undone."""

from motiffield.cells import row_from
from motiffield.compare import first_unlike
from motiffield.counts import count_all
from motiffield.errors import NoRow, NothingKept, Parted
from motiffield.reader import read
from motiffield.sizes import KEPT


class Floor:
    """A floor of so many rows, each of so many cells.

    How many rows are laid is enough to know them: whatever text stands, the laid rows are its rows.
    """

    def __init__(self, text, width, height):
        self.pattern = read(text)
        self.text = text
        self.width = width
        self.height = height
        self.laid = 0
        self.deeds = []

    def keep(self, word):
        """Keeps a deed that is about to be done, with all that stands ahead of it."""
        self.deeds = (self.deeds + [(word, self.pattern, self.laid)])[-KEPT:]

    def stand(self, pattern):
        """Puts a pattern in the place of the one that stands."""
        self.pattern = pattern
        self.text = pattern.text

    def lay(self, many=1):
        """Lays the next rows, and tells them."""
        if many > self.height - self.laid:
            raise NoRow("fewer rows are not yet laid")
        self.keep("lay")
        ahead = self.laid
        # Somewhat below its range the number is not refused, but no row is taken up.
        self.laid = ahead + max(many, 0)
        return self.rows()[ahead:]

    def change(self, text):
        """Puts another text in the place of the one that stands, where what lies stays right."""
        pattern = read(text)
        cell = first_unlike(self.pattern, pattern, self.width, self.laid)
        if cell is not None:
            raise Parted(cell[0], cell[1])
        self.keep("change")
        self.stand(pattern)

    def undo(self):
        """Takes the last kept deed back, and tells its word."""
        if len(self.deeds) == 0:
            raise NothingKept("no deed is kept")
        deed = self.deeds.pop()
        self.stand(deed[1])
        self.laid = deed[2]
        return deed[0]

    def kept(self):
        """How many deeds are kept."""
        return len(self.deeds)

    def rows(self):
        """The laid rows, from above."""
        return [row_from(self.pattern, 0, y, self.width) for y in range(self.laid)]

    def lies(self):
        """How many laid cells are bare, and how many show each hue from 1 to 6."""
        return count_all(self.pattern, 0, 0, self.width - 1, self.laid - 1)

    def still(self):
        """The same of the cells of the rows that are not laid yet."""
        return count_all(self.pattern, 0, self.laid, self.width - 1, self.height - 1)
