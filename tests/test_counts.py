"""Counting: `count_hue` and `count_all`."""

import random
import unittest

from motiffield.counts import count_all, count_hue
from motiffield.errors import TooFar
from motiffield.reader import read
from patterns import (
    FAR, GAPS, GREAT_TREES, PLAIN, counts_by_leftovers, drawn_folded, holes, over, own_family, slow_counts,
)
from texts import good_trees, motif, refusal, shown, written

SLANTED = over(motif("12.", (5, 0), (2, 1)), ("turn", motif("3./.4", (3, 1), (0, 2))))
WHOLE = (-FAR, -FAR, FAR, FAR)


class Told(unittest.TestCase):
    def test_near(self):
        pattern = read("[12/3.;2,0;0,2]")
        self.assertEqual(count_all(pattern, 0, 0, 1, 1), [1, 1, 1, 1, 0, 0, 0])
        self.assertEqual(count_all(pattern, 0, 0, 2, 2), [1, 4, 2, 2, 0, 0, 0])
        self.assertEqual(count_all(pattern, -1, -1, 1, 1), [4, 1, 2, 2, 0, 0, 0])
        self.assertEqual([count_hue(pattern, hue, 0, 0, 2, 2) for hue in range(7)], [1, 4, 2, 2, 0, 0, 0])

    def test_each_hue_by_its_number(self):
        pattern = read("[.123456;7,0;0,1]")
        for hue in range(7):
            counts = [int(place == hue) for place in range(7)]
            self.assertEqual(count_all(pattern, hue, 3, hue, 3), counts)
            self.assertEqual([count_hue(pattern, place, hue, 3, hue, 3) for place in range(7)], counts)

    def test_all_cells_that_are_not_too_far(self):
        side = 2 * FAR + 1
        self.assertEqual(count_all(read(written(PLAIN)), *WHOLE), [0, side ** 2, 0, 0, 0, 0, 0])
        self.assertEqual(count_all(read(written(GAPS)), *WHOLE), [side ** 2, 0, 0, 0, 0, 0, 0])
        # Of -FAR to FAR one number more is even than odd.
        self.assertEqual(count_all(read("[12;2,0;0,1]"), *WHOLE), [0, side * (FAR + 1), side * FAR, 0, 0, 0, 0])
        half = (side ** 2 - 1) // 2
        self.assertEqual(count_all(read("[12;2,0;1,1]"), *WHOLE), [0, half + 1, half, 0, 0, 0, 0])
        self.assertEqual(count_hue(read("[5;2,0;0,2]"), 5, *WHOLE), (FAR + 1) ** 2)
        self.assertEqual(count_hue(read("[5;2,0;0,2]"), 0, *WHOLE), side ** 2 - (FAR + 1) ** 2)

    def test_kinds(self):
        counts = count_all(read("[12/3.;2,0;0,2]"), -3, -4, 5, 6)
        self.assertIs(type(counts), list)
        self.assertEqual([type(number) for number in counts], [int] * 7)
        self.assertIs(type(count_hue(read("[12/3.;2,0;0,2]"), 2, -3, -4, 5, 6)), int)

    def test_a_hue_beyond_the_range_is_nowhere(self):
        pattern = read("[.123456;7,0;0,1]")
        for hue in (-7, -1, 7, 8, 100):
            self.assertEqual(count_hue(pattern, hue, 0, 0, 20, 20), 0)


class CellByCell(unittest.TestCase):
    def hold(self, tree, rectangle):
        text = written(tree)
        counts = count_all(read(text), *rectangle)
        if counts != slow_counts(tree, *rectangle):
            self.fail(f"{text} in {rectangle} was told as {counts}, there are {slow_counts(tree, *rectangle)}")
        left, top, right, bottom = rectangle
        self.assertEqual(sum(counts), max(right - left + 1, 0) * max(bottom - top + 1, 0))
        for hue in range(7):
            self.assertEqual(count_hue(read(text), hue, *rectangle), counts[hue])

    def trees(self, chance):
        return [drawn_folded(chance) for _ in range(25)] + good_trees(chance, 2, 4, 4, 25) + [SLANTED]

    def test_near(self):
        chance = random.Random(51)
        for tree in self.trees(chance):
            for _ in range(8):
                left, top = chance.randint(-30, 10), chance.randint(-30, 10)
                self.hold(tree, (left, top, left + chance.randint(0, 40), top + chance.randint(0, 40)))

    def test_every_small_rectangle(self):
        for tree in (SLANTED, motif("12/3.", (3, 0), (1, 2)), motif("1", (2, 1), (-1, 2))):
            for left in range(-3, 3):
                for top in range(-3, 3):
                    for right in range(left - 1, left + 6):
                        for bottom in range(top - 1, top + 6):
                            self.hold(tree, (left, top, right, bottom))

    def test_far_away(self):
        chance = random.Random(52)
        for tree in self.trees(chance):
            for _ in range(4):
                left, top = chance.randint(-FAR, FAR - 30), chance.randint(-FAR, FAR - 30)
                self.hold(tree, (left, top, left + chance.randint(0, 25), top + chance.randint(0, 25)))

    def test_at_the_very_bounds(self):
        chance = random.Random(53)
        sides = ((-FAR, -FAR + 13), (FAR - 11, FAR), (-FAR, -FAR), (FAR, FAR))
        for tree in self.trees(chance)[::3] + [GREAT_TREES[0], holes(GAPS)]:
            for left, right in sides:
                for top, bottom in sides:
                    self.hold(tree, (left, top, right, bottom))

    def test_by_the_plain_reading_itself(self):
        chance = random.Random(54)
        for tree in good_trees(chance, 2, 4, 3, 10):
            for left, top in ((-4, -6), (FAR - 9, -FAR), (-FAR, FAR - 7)):
                hues = [shown(tree, x, y) for x in range(left, left + 10) for y in range(top, top + 8)]
                counts = count_all(read(written(tree)), left, top, left + 9, top + 7)
                self.assertEqual(counts, [hues.count(hue) for hue in range(7)])

    def test_families_of_720_cells(self):
        for tree in GREAT_TREES:
            width, height, slant = own_family(tree)
            self.hold(tree, (-7, -5, 20, 24))
            self.hold(tree, (0, 0, width - 1, height - 1))
            self.hold(tree, (FAR - 50, FAR - 50, FAR, FAR))

    def test_a_row_and_a_column_longer_than_the_pattern(self):
        for tree in (SLANTED, GREAT_TREES[0], GREAT_TREES[7], GREAT_TREES[8]):
            self.hold(tree, (-1000, 3, 1000, 3))
            self.hold(tree, (-2, -1000, -2, 1000))
            self.hold(tree, (5, -1000, 6, 439))

    def test_no_cell(self):
        for tree in (SLANTED, PLAIN, GREAT_TREES[0]):
            pattern = read(written(tree))
            for rectangle in (
                (0, 0, -1, 0), (0, 0, 0, -1), (0, 0, -1, -1), (5, 5, 3, 9), (5, 5, 9, 3), (5, 5, 1, 1),
                (FAR, 0, -FAR, 0), (0, FAR, 0, -FAR), (FAR, FAR, -FAR, -FAR), (FAR, -FAR, -FAR, FAR),
                (-FAR, FAR, FAR, -FAR), (1, 0, 0, 10 ** 6), (0, 1, 10 ** 6, 0),
            ):
                self.assertEqual(count_all(pattern, *rectangle), [0] * 7)
                self.assertEqual([count_hue(pattern, hue, *rectangle) for hue in range(7)], [0] * 7)

    def test_one_cell(self):
        for tree in (SLANTED, GREAT_TREES[0], motif("12/3.", (3, 0), (1, 2))):
            for x in (-FAR, -7, 0, 3, FAR):
                for y in (-FAR, -5, 0, 2, FAR):
                    counts = [0] * 7
                    counts[shown(tree, x, y)] = 1
                    self.assertEqual(count_all(read(written(tree)), x, y, x, y), counts)


class GreatRectangles(unittest.TestCase):
    def rectangles(self, chance):
        drawn = []
        for _ in range(6):
            left, right = sorted(chance.sample(range(-FAR, FAR + 1), 2))
            top, bottom = sorted(chance.sample(range(-FAR, FAR + 1), 2))
            drawn.append((left, top, right, bottom))
        return drawn + [
            WHOLE, (-FAR, 0, FAR, 0), (0, -FAR, 0, FAR), (-FAR, -FAR, 0, 0), (0, 0, FAR, FAR), (3, -FAR, 7, FAR),
            (-FAR, -3, FAR, 8), (-FAR, -FAR, FAR - 1, FAR - 1), (1 - FAR, 1 - FAR, FAR, FAR), (FAR, -FAR, FAR, FAR),
        ]

    def test_by_what_is_left_over(self):
        chance = random.Random(55)
        trees = [drawn_folded(chance) for _ in range(25)] + good_trees(chance, 1, 4, 4, 15) + [SLANTED]
        for tree in trees:
            for rectangle in self.rectangles(chance):
                left, top, right, bottom = rectangle
                counts = count_all(read(written(tree)), *rectangle)
                self.assertEqual(counts, counts_by_leftovers(tree, *rectangle), (written(tree), rectangle))
                self.assertEqual(sum(counts), (right - left + 1) * (bottom - top + 1))

    def test_families_of_720_cells(self):
        for tree in (GREAT_TREES[0], GREAT_TREES[2], holes(GAPS)):
            self.assertEqual(count_all(read(written(tree)), *WHOLE), counts_by_leftovers(tree, *WHOLE))
        for tree in GREAT_TREES:
            self.assertEqual(sum(count_all(read(written(tree)), *WHOLE)), (2 * FAR + 1) ** 2)

    def test_a_rectangle_is_the_sum_of_its_parts(self):
        chance = random.Random(56)
        for tree in GREAT_TREES + [SLANTED]:
            pattern = read(written(tree))
            x, y = chance.randint(-FAR, FAR - 1), chance.randint(-FAR, FAR - 1)
            parts = [
                count_all(pattern, -FAR, -FAR, x, y), count_all(pattern, x + 1, -FAR, FAR, y),
                count_all(pattern, -FAR, y + 1, x, FAR), count_all(pattern, x + 1, y + 1, FAR, FAR),
            ]
            self.assertEqual([sum(numbers) for numbers in zip(*parts)], count_all(pattern, *WHOLE))

    def test_each_whole_field_alike(self):
        # A rectangle as wide as the family and so high that it goes straight down to the same again.
        for tree in GREAT_TREES + [SLANTED]:
            pattern = read(written(tree))
            width, height, slant = own_family(tree)
            field = count_all(pattern, 0, 0, width - 1, height - 1)
            for x, y in ((0, 0), (-13, 999), (FAR - width, -FAR)):
                told = count_all(pattern, x, y, x + width - 1, y + width * height - 1)
                self.assertEqual(told, [number * width for number in field])


class Far(unittest.TestCase):
    def test_just_beyond_each_bound(self):
        pattern = read(written(SLANTED))
        for start in (WHOLE, (0, 0, 0, 0), (5, 5, 1, 1), (FAR, FAR, FAR, FAR), (-FAR, -FAR, -FAR, -FAR)):
            self.assertIsNone(refusal(count_all, pattern, *start))
            for place in range(4):
                for beyond in (-FAR - 1, FAR + 1, -2 * FAR, 10 ** 30):
                    rectangle = list(start)
                    rectangle[place] = beyond
                    self.assertEqual(refusal(count_all, pattern, *rectangle), ("TooFar",), rectangle)
                    for hue in (0, 3, 6):
                        self.assertEqual(refusal(count_hue, pattern, hue, *rectangle), ("TooFar",), rectangle)

    def test_at_each_bound(self):
        pattern = read(written(SLANTED))
        for left in (-FAR, FAR):
            for top in (-FAR, FAR):
                for right in (-FAR, FAR):
                    for bottom in (-FAR, FAR):
                        self.assertIsNone(refusal(count_all, pattern, left, top, right, bottom))
                        self.assertIsNone(refusal(count_hue, pattern, 1, left, top, right, bottom))

    def test_also_where_there_is_no_cell(self):
        pattern = read(written(PLAIN))
        for rectangle in (
            (FAR + 1, 0, 0, 0), (0, FAR + 1, 0, 0), (0, 0, -FAR - 1, 0), (0, 0, 0, -FAR - 1),
            (5, FAR + 1, 3, FAR + 2), (FAR + 5, 2, FAR + 3, 1), (1, 1, 0, FAR + 1), (-FAR - 1, 1, 0, 0),
        ):
            self.assertEqual(refusal(count_all, pattern, *rectangle), ("TooFar",))
            self.assertEqual(refusal(count_hue, pattern, 0, *rectangle), ("TooFar",))

    def test_class(self):
        pattern = read(written(PLAIN))
        for call in (lambda: count_all(pattern, 0, 0, 0, FAR + 1), lambda: count_hue(pattern, 1, 0, 0, 0, FAR + 1)):
            with self.assertRaises(TooFar) as caught:
                call()
            self.assertIs(type(caught.exception), TooFar)


class Apart(unittest.TestCase):
    def test_the_list_is_the_callers_own(self):
        pattern = read(written(SLANTED))
        first = count_all(pattern, -3, -3, 9, 9)
        kept = list(first)
        first[0] = -1
        first.clear()
        second = count_all(pattern, -3, -3, 9, 9)
        self.assertEqual(second, kept)
        self.assertIsNot(first, second)

    def test_a_refused_call_changes_nothing(self):
        pattern = read(written(SLANTED))
        before = (pattern.text, pattern.shifts, count_all(pattern, -3, -3, 9, 9))
        for _ in range(2):
            self.assertEqual(refusal(count_all, pattern, -3, -3, FAR + 1, 9), ("TooFar",))
            self.assertEqual((pattern.text, pattern.shifts, count_all(pattern, -3, -3, 9, 9)), before)


if __name__ == "__main__":
    unittest.main()
