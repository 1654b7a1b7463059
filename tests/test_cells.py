"""Cells, however far: the plain reading, `cell_at`, `row_from` and what is too far."""

import random
import unittest

from motiffield.cells import cell_at, row_from
from motiffield.errors import TooFar
from motiffield.reader import read
from texts import SIGNS, good_trees, motif, motifs, refusal, shown, written

FAR = 10 ** 12
NEAR = [(x, y) for y in range(-5, 6) for x in range(-5, 6)]
BOUNDS = [
    (x, y)
    for x in (-FAR, 1 - FAR, -1, 0, 1, FAR - 1, FAR)
    for y in (-FAR, 1 - FAR, -1, 0, 1, FAR - 1, FAR)
]
# One text for each form, and some nests.
TREES = [
    motif("12/3.", (2, 0), (0, 2)),
    motif("1234/.56./6.5.", (3, 1), (-1, 2)),
    motif("12345612/........", (5, -1), (0, 2)),
    ("over", motif("1.", (2, 0), (1, 1)), motif("23/4.", (3, 0), (0, 2))),
    ("shift", -3, 2, motif("123/45.", (4, 0), (1, 3))),
    ("mirror", motif("123/45.", (4, 0), (1, 3))),
    ("turn", motif("123/45.", (4, 0), (1, 3))),
    ("hue", 2, 5, motif("123/45.", (4, 0), (1, 3))),
    ("turn", ("shift", 2, -1, ("mirror", motif("12./.34", (5, 1), (2, 4))))),
    ("shift", 12, -12, ("turn", ("over", motif("1../.2.", (4, 1), (-1, 4)), ("turn", motif("3", (3, 0), (1, 1)))))),
]


def picture(text, width, height):
    """The rows of a pattern from (0, 0) on."""
    pattern = read(text)
    return [row_from(pattern, 0, y, width) for y in range(height)]


class PlainReading(unittest.TestCase):
    def test_motifs(self):
        self.assertEqual(picture("[12/3.;2,0;0,2]", 4, 3), ["1212", "3.3.", "1212"])
        self.assertEqual(picture("[12;2,0;1,1]", 4, 3), ["1212", "2121", "1212"])
        self.assertEqual(picture("[1;3,0;1,1]", 5, 4), ["1..1.", ".1..1", "..1..", "1..1."])
        self.assertEqual(picture("[1;3,0;-1,1]", 5, 3), ["1..1.", "..1..", ".1..1"])
        self.assertEqual(picture("[1;-3,0;1,-1]", 5, 3), ["1..1.", "..1..", ".1..1"])
        self.assertEqual(picture("[./.;2,0;0,2]", 3, 2), ["...", "..."])

    def test_of_several_signs_the_first_by_rows_shows(self):
        self.assertEqual(picture("[12;1,0;0,1]", 2, 2), ["11", "11"])
        self.assertEqual(picture("[.2;1,0;0,1]", 2, 2), ["22", "22"])
        self.assertEqual(picture("[.1/2.;1,0;0,1]", 2, 2), ["11", "11"])
        self.assertEqual(picture("[../.4/31;1,0;0,1]", 2, 2), ["44", "44"])
        self.assertEqual(picture("[12/3.;1,0;0,4]", 3, 4), ["111", "333", "...", "..."])
        self.assertEqual(picture("[.../..5/1.2;2,0;0,2]", 4, 4), ["1.1.", "5.5.", "1.1.", "5.5."])
        self.assertEqual(picture("[123;2,0;0,1]", 4, 1), ["1212"])
        self.assertEqual(picture("[.23;2,0;0,1]", 4, 1), ["3232"])
        self.assertEqual(picture("[12/34;1,1;-1,1]", 4, 2), ["1212", "2121"])

    def test_over(self):
        self.assertEqual(picture("([1.;2,0;0,1]|[23;2,0;0,1])", 4, 2), ["1313", "1313"])
        self.assertEqual(picture("([23;2,0;0,1]|[1.;2,0;0,1])", 4, 1), ["2323"])
        self.assertEqual(picture("([1..;3,0;0,1]|[.2;2,0;0,1])", 6, 1), ["12.1.2"])
        self.assertEqual(picture("([1..;3,0;0,1]|([.2.;3,0;0,1]|[456;3,0;0,1]))", 3, 1), ["126"])

    def test_shifted(self):
        self.assertEqual(picture("s1,0:[123;3,0;0,1]", 6, 1), ["312312"])
        self.assertEqual(picture("s-1,0:[123;3,0;0,1]", 6, 1), ["231231"])
        self.assertEqual(picture("s0,1:[1/2/3;1,0;0,3]", 1, 4), ["3", "1", "2", "3"])
        self.assertEqual(picture("s2,1:[1;4,0;0,3]", 4, 3), ["....", "..1.", "...."])

    def test_mirrored(self):
        self.assertEqual(picture("m[123;3,0;0,1]", 6, 1), ["132132"])
        self.assertEqual(picture("m[1/2/3;1,0;0,3]", 1, 3), ["1", "2", "3"])
        self.assertEqual(picture("m[12/34;2,0;0,2]", 2, 2), ["12", "34"])
        self.assertEqual(picture("m[.1;4,0;0,2]", 4, 2), ["...1", "...."])

    def test_turned(self):
        # The cell right of (0, 0) goes to the one below it, and the one below to the left.
        pattern = read("t[12./3../...;3,0;0,3]")
        self.assertEqual([cell_at(pattern, x, y) for x, y in ((0, 0), (0, 1), (-1, 0), (1, 0))], [1, 2, 3, 0])
        self.assertEqual(picture("t[12;2,0;0,1]", 3, 3), ["111", "222", "111"])
        self.assertEqual(picture("tt[123;3,0;0,1]", 3, 2), ["132", "132"])
        self.assertEqual(picture("tttt[123/456;3,0;0,2]", 3, 2), ["123", "456"])

    def test_hue_for_hue(self):
        self.assertEqual(picture("h12[12.;3,0;0,1]", 3, 1), ["22."])
        self.assertEqual(picture("h21[12.;3,0;0,1]", 3, 1), ["11."])
        self.assertEqual(picture("h11[12.;3,0;0,1]", 3, 1), ["12."])
        self.assertEqual(picture("h34[12.;3,0;0,1]", 3, 1), ["12."])
        self.assertEqual(picture("h12h21[12.;3,0;0,1]", 3, 1), ["22."])
        self.assertEqual(picture("h12h23[123;3,0;0,1]", 3, 1), ["233"])
        self.assertEqual(picture("(h12[1.;2,0;0,1]|[31;2,0;0,1])", 2, 1), ["21"])

    def test_nests_go_from_within_outwards(self):
        self.assertEqual(picture("s1,0:m[123;3,0;0,1]", 3, 1), ["213"])
        self.assertEqual(picture("ms1,0:[123;3,0;0,1]", 3, 1), ["321"])
        self.assertEqual(picture("ts1,0:[12;2,0;0,1]", 1, 2), ["2", "1"])
        self.assertEqual(picture("s1,0:t[12;2,0;0,1]", 1, 2), ["1", "2"])
        self.assertEqual(picture("tm[123;3,0;0,1]", 1, 3), ["1", "3", "2"])
        self.assertEqual(picture("mt[123;3,0;0,1]", 1, 3), ["1", "2", "3"])

    def test_the_same_at_the_bounds(self):
        # 10 ** 12 leaves 1 over by threes.
        pattern = read("[123/456;3,0;0,2]")
        self.assertEqual(cell_at(pattern, FAR, 0), 2)
        self.assertEqual(cell_at(pattern, -FAR, FAR), 3)
        self.assertEqual(cell_at(pattern, FAR - 1, 1 - FAR), 4)
        self.assertEqual(row_from(pattern, FAR - 2, -FAR, 3), "312")
        self.assertEqual(row_from(pattern, -FAR, FAR - 1, 4), "6456")


class AgainstTheSlowReading(unittest.TestCase):
    def hold(self, tree, cells):
        text = written(tree)
        pattern = read(text)
        for x, y in cells:
            hue = cell_at(pattern, x, y)
            if type(hue) is not int or hue != shown(tree, x, y):
                self.fail(f"{text} at ({x}, {y}) was told as {hue!r}, it shows {shown(tree, x, y)}")

    def test_told_trees_near_and_at_the_bounds(self):
        window = [(x, y) for y in range(-14, 15) for x in range(-14, 15)]
        for tree in TREES:
            self.hold(tree, window + BOUNDS)

    def test_drawn_motifs(self):
        chance = random.Random(21)
        for tree in good_trees(chance, 0, 12, 8, 40) + good_trees(chance, 0, 3, 8, 40):
            self.hold(tree, NEAR + BOUNDS)

    def test_drawn_texts_near(self):
        chance = random.Random(22)
        for deep, reach in ((1, 6), (2, 4), (3, 3), (4, 2), (5, 2)):
            for tree in good_trees(chance, deep, reach, 3, 40):
                self.hold(tree, NEAR)

    def test_drawn_texts_far_and_at_the_bounds(self):
        chance = random.Random(23)
        for deep, reach in ((1, 12), (2, 4), (3, 3), (5, 2)):
            for tree in good_trees(chance, deep, reach, 4, 25):
                far = [(chance.randint(-FAR, FAR), chance.randint(-FAR, FAR)) for _ in range(30)]
                self.hold(tree, far + BOUNDS)

    def test_as_many_motifs_as_there_may_be(self):
        chance = random.Random(24)

        def full(deep):
            if deep == 0:
                rows = ["".join(chance.choices("......12", k=8)) for _ in range(8)]
                return ("motif", tuple(rows), (chance.choice((-10, 10)), 0), (2, chance.choice((-12, 12))))
            return ("over", full(deep - 1), full(deep - 1))

        tree = full(5)
        self.assertEqual(len(motifs(tree)), 32)
        self.hold(tree, NEAR + BOUNDS)

    def test_each_shift_of_the_family_leaves_the_cells(self):
        chance = random.Random(25)
        for tree in good_trees(chance, 3, 4, 4, 40):
            pattern = read(written(tree))
            width, height, slant = pattern.shifts
            for a, b in ((1, 0), (0, 1), (-3, 2), (10 ** 8, -(10 ** 8))):
                for x, y in NEAR[::7]:
                    shifted = cell_at(pattern, x + a * width + b * slant, y + b * height)
                    self.assertEqual(shifted, cell_at(pattern, x, y))


class CellTooFar(unittest.TestCase):
    def setUp(self):
        self.pattern = read("([1.3/.2.;3,0;1,2]|m[4;2,1;0,3])")

    def test_just_beyond_each_side(self):
        for x, y in BOUNDS:
            self.assertIsNone(refusal(cell_at, self.pattern, x, y))
        for beyond in (FAR + 1, -FAR - 1, FAR + 2, 2 * FAR, -(10 ** 40)):
            for other in (0, 7, -FAR, FAR, FAR + 1, -FAR - 1):
                self.assertEqual(refusal(cell_at, self.pattern, beyond, other), ("TooFar",))
                self.assertEqual(refusal(cell_at, self.pattern, other, beyond), ("TooFar",))

    def test_class(self):
        for call in (lambda: cell_at(self.pattern, FAR + 1, 0), lambda: row_from(self.pattern, FAR, 0, 2)):
            with self.assertRaises(TooFar) as caught:
                call()
            self.assertIs(type(caught.exception), TooFar)

    def test_what_the_forms_ask_for_within_is_never_too_far(self):
        tree = ("shift", -12, 12, ("turn", ("shift", 12, -12, ("mirror", ("shift", -12, -12, TREES[1])))))
        pattern = read(written(tree))
        for x, y in BOUNDS:
            self.assertEqual(cell_at(pattern, x, y), shown(tree, x, y))


class Rows(unittest.TestCase):
    def test_one_to_a_hundred_cells(self):
        for tree in TREES[:4]:
            pattern = read(written(tree))
            for x, y in ((0, 0), (-50, 3), (-FAR, FAR), (123456789, -987654321)):
                whole = "".join(SIGNS[shown(tree, x + step, y)] for step in range(100))
                for many in range(1, 101):
                    row = row_from(pattern, x, y, many)
                    self.assertIs(type(row), str)
                    self.assertEqual(row, whole[:many])

    def test_drawn_texts(self):
        chance = random.Random(26)
        for tree in good_trees(chance, 3, 4, 4, 30):
            pattern = read(written(tree))
            x, y = chance.randint(-FAR, FAR - 29), chance.randint(-FAR, FAR)
            row = row_from(pattern, x, y, 30)
            self.assertEqual(row, "".join(SIGNS[shown(tree, x + step, y)] for step in range(30)))

    def test_each_hue_by_its_sign(self):
        self.assertEqual(row_from(read("[.123456;7,0;0,1]"), 0, 0, 14), ".123456.123456")

    def test_the_last_cell_is_the_farthest_one(self):
        tree = TREES[1]
        pattern = read(written(tree))
        for many in range(1, 101):
            for y in (0, FAR, -FAR):
                row = row_from(pattern, FAR - many + 1, y, many)
                self.assertEqual(len(row), many)
                self.assertEqual(row[-1], SIGNS[shown(tree, FAR, y)])
                self.assertEqual(row[0], SIGNS[shown(tree, FAR - many + 1, y)])
                self.assertEqual(refusal(row_from, pattern, FAR - many + 2, y, many), ("TooFar",))

    def test_too_far(self):
        pattern = read(written(TREES[0]))
        for many in (1, 2, 50, 100):
            self.assertIsNone(refusal(row_from, pattern, -FAR, FAR, many))
            self.assertIsNone(refusal(row_from, pattern, -FAR, -FAR, many))
            for x, y in ((-FAR - 1, 0), (-FAR - 50, 0), (FAR + 1, 0), (0, FAR + 1), (0, -FAR - 1), (FAR + 9, FAR + 9)):
                self.assertEqual(refusal(row_from, pattern, x, y, many), ("TooFar",))

    def test_somewhat_beyond_the_range(self):
        pattern = read(written(TREES[0]))
        self.assertEqual(row_from(pattern, 0, 0, 101), "12" * 50 + "1")
        self.assertEqual(row_from(pattern, 0, 0, 250), "12" * 125)
        self.assertEqual(row_from(pattern, 0, 0, 0), "")


class Apart(unittest.TestCase):
    def test_a_refused_call_may_be_made_again_and_changes_nothing(self):
        text = "([1.3/.2.;3,0;1,2]|m[4;2,1;0,3])"
        pattern = read(text)
        before = [row_from(pattern, -5, y, 11) for y in range(-5, 6)]
        for _ in range(2):
            self.assertEqual(refusal(cell_at, pattern, FAR + 1, 0), ("TooFar",))
            self.assertEqual(refusal(row_from, pattern, FAR - 3, 0, 5), ("TooFar",))
            self.assertEqual((pattern.text, pattern.shifts), (text, read(text).shifts))
            self.assertEqual([row_from(pattern, -5, y, 11) for y in range(-5, 6)], before)

    def test_patterns_read_in_turn_do_not_mix(self):
        patterns = [read(written(tree)) for tree in TREES]
        for x, y in NEAR:
            for tree, pattern in zip(TREES, patterns):
                self.assertEqual(cell_at(pattern, x, y), shown(tree, x, y))


if __name__ == "__main__":
    unittest.main()
