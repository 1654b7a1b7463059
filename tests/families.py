"""What the tests of shifts share: families to try, and plain ways to check them."""

MOST = 720


def families_of(cells):
    """Every family with just so many cells."""
    return [
        (width, cells // width, slant)
        for width in range(1, cells + 1)
        if cells % width == 0
        for slant in range(width)
    ]


def families_up_to(cells):
    return [family for many in range(1, cells + 1) for family in families_of(many)]


GREAT = [
    (720, 1, 0), (720, 1, 1), (720, 1, 719), (1, 720, 0), (2, 360, 1), (360, 2, 7),
    (24, 30, 0), (24, 30, 23), (30, 24, 10), (719, 1, 5), (1, 719, 0), (27, 26, 9),
]


def is_family(value):
    """Whether a value has the form in which one family is told."""
    return (
        type(value) is tuple
        and len(value) == 3
        and all(type(number) is int for number in value)
        and value[0] >= 1
        and value[1] >= 1
        and 0 <= value[2] < value[0]
    )


def basis(family):
    """The two shifts whose sums are the family's."""
    width, height, slant = family
    return (width, 0), (slant, height)


def field(family):
    width, height, slant = family
    return [(x, y) for y in range(height) for x in range(width)]


def is_sum(shift, first, second):
    """Whether a shift is a whole sum of two others that don't lie along one line (Cramer's rule)."""
    det = first[0] * second[1] - first[1] * second[0]
    a = shift[0] * second[1] - shift[1] * second[0]
    b = first[0] * shift[1] - first[1] * shift[0]
    return a % det == 0 and b % det == 0


def in_family(family, x, y):
    """What `among` must tell, by the meaning of the tuple alone."""
    first, second = basis(family)
    return is_sum((x, y), first, second)


def brought_home(family, x, y):
    """The cell of the field that a shift brings a cell to: first by whole slanting shifts, then by level ones."""
    width, height, slant = family
    slanting = y // height
    return (x - slanting * slant) % width, y - slanting * height


def family_where(has):
    """The family of the shifts of which has(x, y) is true, or None where it has more cells than a field may have."""
    for width in range(1, MOST + 1):
        if has(width, 0):
            for height in range(1, MOST // width + 1):
                for slant in range(width):
                    if has(slant, height):
                        return (width, height, slant)
            return None
    return None
