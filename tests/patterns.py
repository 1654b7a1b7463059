"""What the tests of whole patterns share: trees to try, and slow searches written out of the document's words.

Trees are told as in texts.py. No part of the package is used here.
"""

import functools

from families import brought_home, family_where, field, in_family
from texts import SIGNS, family_of, motif, shown

FAR = 10 ** 12
PLAIN = motif("1", (1, 0), (0, 1))
GAPS = motif(".", (1, 0), (0, 1))


def over(*trees):
    """Several trees, each laid over those behind it."""
    return trees[0] if len(trees) == 1 else ("over", trees[0], over(*trees[1:]))


def holes(below):
    """Hue 1 at all cells, but for one in 720, where the tree below shows: (39, 17) in the field (40, 18, 0)."""
    eight = motif("1111111", (8, 0), (0, 1))
    five = motif("1111", (5, 0), (0, 1))
    nine_down = motif("1/1/1/1/1/1/1/1", (1, 0), (0, 9))
    two_down = motif("1", (1, 0), (0, 2))
    # In pairs, so that few forms stand round each motif and more may be put round the whole.
    return over(over(eight, five), over(nine_down, two_down), below)


# Each has a family of 720 cells; the least one may have fewer.
GREAT_TREES = [
    over(motif("1", (9, 0), (0, 8)), motif("2", (10, 0), (0, 1))),
    ("hue", 2, 1, over(motif("1", (9, 0), (0, 8)), motif("2", (10, 0), (0, 1)))),
    ("turn", over(motif("1", (9, 0), (0, 8)), motif("2", (10, 0), (0, 1)))),
    over(motif("1.2", (12, 0), (0, 12)), motif("3", (5, 0), (0, 1))),
    over(motif("12/21", (2, 0), (0, 2)), motif("3", (9, 0), (0, 8)), motif("4", (10, 0), (0, 1))),
    over(motif("...", (9, 0), (0, 8)), motif("./.", (10, 0), (0, 1))),
    over(motif("...", (9, 0), (0, 8)), motif("12", (10, 0), (0, 1))),
    over(motif("1", (12, 4), (-1, 1)), motif("2", (8, 1), (-1, 1)), motif("3", (4, 1), (-1, 1))),
    ("turn", over(motif("1", (12, 4), (-1, 1)), motif("1", (8, 1), (-1, 1)), motif("1", (4, 1), (-1, 1)))),
    over(motif("12", (12, 4), (-1, 1)), motif("..", (8, 1), (-1, 1)), motif("333", (4, 1), (-1, 1))),
    ("hue", 1, 3, over(motif("11", (3, 0), (0, 1)), motif("3", (9, 0), (0, 8)), motif("3333", (10, 0), (0, 1)))),
    holes(GAPS),
    ("shift", -12, -5, holes(GAPS)),
]


def folded(chance):
    """A drawn motif whose rows repeat, so that its least family has fewer cells than its own, or as many."""
    width, height = chance.randint(1, 4), chance.randint(1, 4)
    family = (width, height, chance.randrange(width))
    signs = chance.choice(["12", ".1", ".12", "123456"])
    hues = {cell: chance.choice(signs) for cell in field(family)}
    across, down = chance.randint(1, 8 // width), chance.randint(1, 8 // height)
    rows = ["".join(hues[brought_home(family, x, y)] for x in range(across * width)) for y in range(down * height)]
    slant = (down * family[2] + chance.randint(0, 3) * width) % (across * width)
    first, second = (across * width, 0), (slant, down * height)
    return ("motif", tuple(rows), *chance.choice([(first, second), (second, first)]))


def drawn_folded(chance):
    """A tree, with few cells in its family, out of motifs whose rows repeat."""
    while True:
        tree = folded(chance)
        for _ in range(chance.randint(0, 2)):
            tree = chance.choice([
                ("mirror", tree), ("turn", tree), ("shift", chance.randint(-12, 12), chance.randint(-12, 12), tree),
                ("hue", chance.randint(1, 3), chance.randint(1, 3), tree), ("over", tree, folded(chance)),
            ])
        family = family_of(tree)
        if family is not None and family[0] * family[1] <= 200:
            return tree


# The least form (points 15 to 19).

@functools.lru_cache(maxsize=None)
def own_family(tree):
    return family_of(tree)


@functools.lru_cache(maxsize=None)
def field_hues(tree):
    """What each cell of the field of the tree's own family shows."""
    return {cell: shown(tree, *cell) for cell in field(own_family(tree))}


def hue_at(tree, x, y):
    """The plain reading again, by the field of the tree's own family: faster for many cells."""
    return field_hues(tree)[brought_home(own_family(tree), x, y)]


@functools.lru_cache(maxsize=None)
def staying(tree):
    """The shifts within the field of the tree's own family that leave each cell as it is."""
    family, hues = own_family(tree), field_hues(tree)
    return frozenset(
        (right, down)
        for right, down in hues
        if all(hues[brought_home(family, x + right, y + down)] == hue for (x, y), hue in hues.items())
    )


def leaves_all(tree, x, y):
    """Whether a shift leaves each cell of a tree's pattern as it is."""
    return brought_home(own_family(tree), x, y) in staying(tree)


@functools.lru_cache(maxsize=None)
def slow_least(tree):
    return family_where(lambda x, y: leaves_all(tree, x, y))


def slow_form(tree):
    width, height, slant = slow_least(tree)
    rows = ["".join(SIGNS[shown(tree, x, y)] for x in range(width)) for y in range(height)]
    return (width, height, slant, tuple(rows))


def slow_common(one, two):
    """The common family of two trees, or None where it has too many cells."""
    least = slow_least(one), slow_least(two)
    return family_where(lambda x, y: in_family(least[0], x, y) and in_family(least[1], x, y))


def slow_parting(one, two):
    """The first cell by rows of the common field where two trees part, or None."""
    cells = field(slow_common(one, two))
    return next((cell for cell in cells if hue_at(one, *cell) != hue_at(two, *cell)), None)


# Counting (point 20).

def slow_counts(tree, left, top, right, bottom):
    """Cell by cell."""
    counts = [0] * 7
    for y in range(top, bottom + 1):
        for x in range(left, right + 1):
            counts[hue_at(tree, x, y)] += 1
    return counts


def many_like(number, step, first, last):
    """How many whole numbers from first to last leave the same over by step as a number does."""
    return max((last - number) // step - (first - 1 - number) // step, 0)


def counts_by_leftovers(tree, left, top, right, bottom):
    """For great rectangles: width across and width * height down, straight each, a pattern is the same again."""
    width, height, slant = own_family(tree)
    counts = [0] * 7
    for y in range(width * height):
        rows = many_like(y, width * height, top, bottom)
        for x in range(width):
            counts[hue_at(tree, x, y)] += rows * many_like(x, width, left, right)
    return counts


# The floor (points 21 to 25).

class SlowFloor:
    """A floor that keeps every row as it was laid, and each deed as what has to be done to take it back."""

    def __init__(self, tree, width, height):
        self.tree, self.width, self.height = tree, width, height
        self.laid = []
        self.deeds = []

    def row(self, y):
        return "".join(SIGNS[hue_at(self.tree, x, y)] for x in range(self.width))

    def done(self, *deed):
        self.deeds.append(deed)
        if len(self.deeds) > 20:
            self.deeds.pop(0)

    def lay(self, many=1):
        if len(self.laid) + many > self.height:
            return ("NoRow",)
        rows = [self.row(len(self.laid) + step) for step in range(many)]
        self.laid += rows
        self.done("lay", many)
        return rows

    def change(self, tree):
        for y, row in enumerate(self.laid):
            for x, sign in enumerate(row):
                if SIGNS[hue_at(tree, x, y)] != sign:
                    return ("Parted", x, y)
        self.done("change", self.tree)
        self.tree = tree
        return None

    def undo(self):
        if not self.deeds:
            return ("NothingKept",)
        word, what = self.deeds.pop()
        if word == "lay":
            del self.laid[len(self.laid) - what:]
        else:
            self.tree = what
        return word

    def counted(self, rows):
        signs = "".join(rows)
        return [signs.count(sign) for sign in SIGNS]

    def lies(self):
        return self.counted(self.laid)

    def still(self):
        return self.counted(self.row(y) for y in range(len(self.laid), self.height))
