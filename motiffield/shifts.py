"""Families of shifts, each told by one tuple (width, height, slant).

The shifts of a family are the sums a * (width, 0) + b * (slant, height) with whole a and b.
"""


def levelled(first, second):
    """Two shifts with the same sums as the two handed in: one with y from 0 on, and one with y 0."""
    # Euclid's steps: to take one shift some times off the other never changes what their sums are.
    while second[1] != 0:
        times = first[1] // second[1]
        rest = (first[0] - times * second[0], first[1] - times * second[1])
        first = second
        second = rest
    if first[1] < 0:
        first = (-first[0], -first[1])
    return (first, second)


def measure(one, two):
    """The greatest common measure of two whole numbers, and a factor.

    The factor times one is the measure, but for some whole times two.
    """
    # In each shift (u, r) on the way r is u * one, but for some whole times two; so in the last one too.
    last = levelled((1, one), (0, two))[0]
    return (last[1], last[0])


def spread(first, second):
    """The family of all sums of two shifts, or None where they lie along one line."""
    if first[0] * second[1] == first[1] * second[0]:
        return None
    pair = levelled(first, second)
    width = abs(pair[1][0])
    return (width, pair[0][1], pair[0][0] % width)


def among(family, x, y):
    """Whether the shift (x, y) is one of the family's."""
    return home(family, x, y) == (0, 0)


def home(family, x, y):
    """The cell of the family's field that some shift of the family brings (x, y) to."""
    width = family[0]
    height = family[1]
    slant = family[2]
    return ((x - y // height * slant) % width, y % height)


def met(one, two):
    """The family of the shifts that are in both families."""
    common = measure(one[0], two[0])
    width = one[0] * two[0] // common[0]
    rise = one[1] * two[1] // measure(one[1], two[1])[0]
    # Both families have shifts in the rows 0, rise, 2 * rise ..: in row k * rise those with x = k * start
    # and x = k * (start + gap), but for whole times their widths. The two sorts share an x just where
    # k * gap is some whole times the common measure of the widths; climbs is the least such k.
    start = rise // one[1] * one[2]
    gap = rise // two[1] * two[2] - start
    climbs = common[0] // measure(common[0], gap)[0]
    # So many widths of the first family, by the factor's meaning, lead from its x to one of the second's.
    steps = climbs * gap // common[0] * common[1]
    return (width, rise * climbs, (climbs * start + steps * one[0]) % width)


def mirrored(family):
    """The family of the shifts (-X, Y) for all shifts (X, Y) of the family."""
    return (family[0], family[1], -family[2] % family[0])


def turned(family):
    """The family of the shifts (-Y, X) for all shifts (X, Y) of the family."""
    return spread((0, family[0]), (-family[1], family[2]))
