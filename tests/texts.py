"""What the tests of texts share, written anew out of the document's words.

A tree is a text told as tuples: ("motif", rows, first, second), ("over", upper, lower), ("shift", a, b, tree),
("mirror", tree), ("turn", tree), ("hue", old, new, tree). No part of the package is used here but its errors.
"""

from families import family_where, is_sum
from motiffield.errors import MotifError

SIGNS = ".123456"
ALL_SIGNS = [chr(number) for number in range(ord(" "), ord("~") + 1)]


def motif(rows, first, second):
    return ("motif", tuple(rows.split("/")), first, second)


def written(tree):
    """The text of a tree."""
    if tree[0] == "motif":
        (a, b), (c, d) = tree[2:]
        return f"[{'/'.join(tree[1])};{a},{b};{c},{d}]"
    if tree[0] == "over":
        return f"({written(tree[1])}|{written(tree[2])})"
    if tree[0] == "shift":
        return f"s{tree[1]},{tree[2]}:{written(tree[3])}"
    if tree[0] == "hue":
        return f"h{tree[1]}{tree[2]}{written(tree[3])}"
    return tree[0][0] + written(tree[1])


def motifs(tree):
    """The motifs of a tree, in the order of its text."""
    if tree[0] == "motif":
        return [tree]
    return [found for part in tree[1:] if type(part) is tuple for found in motifs(part)]


# The plain reading (point 8).

def shown(tree, x, y):
    """What a cell shows, 0 to 6."""
    if tree[0] == "motif":
        return shown_by_motif(tree, x, y)
    if tree[0] == "over":
        return shown(tree[1], x, y) or shown(tree[2], x, y)
    if tree[0] == "shift":
        return shown(tree[3], x - tree[1], y - tree[2])
    if tree[0] == "mirror":
        return shown(tree[1], -x, y)
    if tree[0] == "turn":
        return shown(tree[1], y, -x)
    hue = shown(tree[3], x, y)
    return tree[2] if hue == tree[1] else hue


def shown_by_motif(tree, x, y):
    _, rows, first, second = tree
    for j, row in enumerate(rows):
        for i, sign in enumerate(row):
            if sign != "." and is_sum((x - i, y - j), first, second):
                return SIGNS.index(sign)
    return 0


# The family of a text (point 11), by which shifts are in it.

def is_flat(tree):
    """Whether the two shifts of a motif lie along one line."""
    (a, b), (c, d) = tree[2:]
    return a * d == b * c


def has_shift(tree, x, y):
    """Whether (x, y) is a shift of the tree's family."""
    if tree[0] == "motif":
        return is_sum((x, y), tree[2], tree[3])
    if tree[0] == "over":
        return has_shift(tree[1], x, y) and has_shift(tree[2], x, y)
    if tree[0] == "mirror":
        return has_shift(tree[1], -x, y)
    if tree[0] == "turn":
        # (-Y, X) is in it for each (X, Y) of the inner one.
        return has_shift(tree[1], y, -x)
    return has_shift(tree[3], x, y)


def family_of(tree):
    """The tree's family, or None where it has more cells than a field may have."""
    return family_where(lambda x, y: has_shift(tree, x, y))


# Good texts and their beginnings (points 7 and 9). A stack is what has still to come, the next thing first: a text of
# the signs that may stand there, or a tuple for a part that can be written in several ways.

START = frozenset({(("form", 0),)})


def ways_of_form(around):
    inner = ("form", around + 1)
    shift = [("number",), ",", ("number",)]
    ways = [["[", ("rows",), ";", *shift, ";", *shift, "]"]]
    if around < 5:
        ways += [["(", inner, "|", inner, ")"], ["s", *shift, ":", inner], ["m", inner], ["t", inner]]
        ways += [["h", "123456", "123456", inner]]
    return ways


def ways_of_rows():
    ways = []
    for width in range(1, 9):
        for height in range(1, 9):
            row = [SIGNS] * width
            ways.append(row + (["/"] + row) * (height - 1))
    return ways


def ways(part):
    if part[0] == "form":
        return ways_of_form(part[1])
    if part[0] == "rows":
        return ways_of_rows()
    return [list(str(number)) for number in range(-12, 13)]


def told_out(stack):
    """The stacks, each with signs next, that a stack stands for."""
    if stack == () or type(stack[0]) is str:
        return [stack]
    return [out for way in ways(stack[0]) for out in told_out(tuple(way) + stack[1:])]


def passed(stacks, sign):
    """What may still come behind one sign more."""
    return frozenset(
        out[1:] for stack in stacks for out in told_out(stack) if out != () and sign in out[0]
    )


def wrong_place(text, stacks=START, start=0):
    """The place of the first wrong sign, the length of a text that ends too early, or None for a good text.

    Where other stacks than the first ones are handed in, they are what may come from the place start on.
    """
    for place in range(start, len(text)):
        stacks = passed(stacks, text[place])
        if not stacks:
            return place
    return None if () in stacks else len(text)


# Trees drawn by chance (by a seeded source, so the same ones each time).

def drawn_shift(chance, reach):
    return (chance.randint(-reach, reach), chance.randint(-reach, reach))


def drawn_motif(chance, reach, side=8):
    width = chance.randint(1, side)
    signs = chance.choice([".123456", ".....12", "123456", "..12"])
    rows = ["".join(chance.choices(signs, k=width)) for _ in range(chance.randint(1, side))]
    return ("motif", tuple(rows), drawn_shift(chance, reach), drawn_shift(chance, reach))


def drawn(chance, deep, reach, side=8):
    """A tree with at most so many forms round a motif."""
    kind = chance.choice(["motif", "over", "over", "shift", "mirror", "turn", "hue", "hue"])
    if deep == 0 or kind == "motif":
        return drawn_motif(chance, reach, side)
    inner = drawn(chance, deep - 1, reach, side)
    if kind == "over":
        return ("over", inner, drawn(chance, deep - 1, reach, side))
    if kind == "shift":
        return ("shift", *drawn_shift(chance, 12), inner)
    if kind == "hue":
        return ("hue", chance.randint(1, 6), chance.randint(1, 6), inner)
    return (kind, inner)


def good_trees(chance, deep, reach, side, many):
    """So many drawn trees that are not refused."""
    found = []
    while len(found) < many:
        tree = drawn(chance, deep, reach, side)
        if not any(is_flat(part) for part in motifs(tree)) and family_of(tree) is not None:
            found.append(tree)
    return found


def refusal(call, *handed):
    """A refused call as a tuple of the error's name and its fields; None where it is not refused."""
    try:
        call(*handed)
    except MotifError as error:
        return (type(error).__name__, *(vars(error).values()))
    return None
