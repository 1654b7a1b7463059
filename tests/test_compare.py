"""Two patterns: `one_pattern`, `common_field` and `first_parting`."""

import random
import unittest

from families import family_where, in_family, is_family
from motiffield.compare import common_field, first_parting, one_pattern
from motiffield.errors import TooGreat
from motiffield.reader import read
from patterns import (
    GAPS, GREAT_TREES, PLAIN, drawn_folded, holes, over, own_family, slow_common, slow_form, slow_parting,
)
from texts import good_trees, motif, refusal, written

# Pairs of texts that tell one pattern.
ALIKE = [
    ("[12;2,0;1,1]", "([12/21;2,0;0,2]|[3;5,1;0,1])"),
    ("[12;2,0;1,1]", "[12/21;2,0;0,2]"),
    ("[12;2,0;1,1]", "s1,0:[21;2,0;1,1]"),
    ("[.;1,0;0,1]", "([...;9,0;0,8]|[./.;10,0;0,1])"),
    ("[123;3,0;0,1]", "mm[123123;6,0;0,1]"),
    ("[123;3,0;0,1]", "tttt[123/123/123/123/123;3,0;0,5]"),
    ("[1;3,0;0,1]", "s12,7:h21[2;3,0;0,1]"),
    ("[11;5,0;0,2]", "([1;5,0;0,2]|s1,0:[1;5,0;0,2])"),
]
# Pairs that don't, and the first cell by rows of their common field where they part.
UNLIKE = [
    ("[1;1,0;0,1]", "[2;1,0;0,1]", (0, 0)),
    ("[1;1,0;0,1]", "[.;1,0;0,1]", (0, 0)),
    ("[12;2,0;1,1]", "[12;2,0;0,1]", (0, 1)),
    ("[123;3,0;0,1]", "m[123;3,0;0,1]", (1, 0)),
    ("[1;3,0;0,1]", "[1;2,0;0,1]", (2, 0)),
    ("[1;3,0;0,1]", "[1;3,0;0,2]", (0, 1)),
    ("[1;5,0;0,3]", "s1,1:[1;5,0;0,3]", (0, 0)),
    ("[11/1.;2,0;0,2]", "[11/11;2,0;0,2]", (1, 1)),
    ("[1/1/1/1/1/1/1/2;1,0;0,8]", "[1/1/1/1/1/1/1/3;1,0;0,8]", (0, 7)),
    ("[1;4,0;0,2]", "[1;4,0;2,2]", (0, 2)),
]
# Two motifs whose common family has 721 cells, and others with more.
BEYOND = [
    ("[1;12,5;1,9]", "[1;7,0;0,1]"),
    ("[1;11,0;0,11]", "[1;6,0;0,1]"),
    ("[1;1,0;0,11]", "[1;11,0;0,6]"),
    ("[1;12,0;0,12]", "[1;11,0;0,11]"),
    ("[1;12,0;0,12]", "s1,1:[1;11,0;0,11]"),
    ("[1;12,0;0,12]", "t[12;11,0;0,7]"),
    ("[1;12,0;0,11]", "[1;12,0;1,11]"),
]


def both_ways(pairs):
    return [pair for one, two in pairs for pair in ((one, two), (two, one))]


class OnePattern(unittest.TestCase):
    def test_alike(self):
        for one, two in both_ways(ALIKE):
            with self.subTest(one=one, two=two):
                self.assertIs(one_pattern(read(one), read(two)), True)
                self.assertIs(one_pattern(read(one), read(one)), True)

    def test_unlike(self):
        for one, two in both_ways([pair[:2] for pair in UNLIKE]):
            with self.subTest(one=one, two=two):
                self.assertIs(one_pattern(read(one), read(two)), False)

    def test_never_refused(self):
        for one, two in both_ways(BEYOND):
            self.assertIs(one_pattern(read(one), read(two)), False)

    def test_one_cell_alone_of_a_great_field(self):
        plain = read(written(PLAIN))
        two, three = (holes(motif(hue, (1, 0), (0, 1))) for hue in "23")
        self.assertIs(one_pattern(read(written(holes(PLAIN))), plain), True)
        self.assertIs(one_pattern(read(written(holes(GAPS))), plain), False)
        self.assertIs(one_pattern(read(written(two)), read(written(three))), False)
        self.assertIs(one_pattern(read(written(("hue", 2, 3, two))), read(written(three))), True)

    def test_drawn_pairs(self):
        chance = random.Random(41)
        trees = [drawn_folded(chance) for _ in range(60)] + GREAT_TREES
        met = {True: 0, False: 0}
        for one in trees:
            for two in trees[::3] + [("shift", 2, 1, one), ("mirror", one), ("hue", 1, 2, one), over(one, PLAIN)]:
                alike = slow_form(one) == slow_form(two)
                self.assertIs(one_pattern(read(written(one)), read(written(two))), alike, (one, two))
                met[alike] += 1
        self.assertGreater(min(met.values()), 50)


class CommonField(unittest.TestCase):
    def test_told_answers(self):
        answers = [
            ("[1;2,0;0,1]", "[1;3,0;0,1]", (6, 1, 0)),
            ("[12;2,0;1,1]", "[1;1,0;0,2]", (2, 2, 0)),
            ("[12;2,0;1,1]", "[123;3,0;1,1]", (6, 1, 1)),
            ("[1;9,0;0,8]", "[1;10,0;0,1]", (90, 8, 0)),
            ("[1;12,0;0,12]", "[1;5,0;0,1]", (60, 12, 0)),
            ("[1;1,0;0,12]", "[1;12,0;0,5]", (12, 60, 0)),
        ]
        for one, two, family in answers:
            with self.subTest(one=one, two=two):
                told = common_field(read(one), read(two))
                self.assertTrue(is_family(told))
                self.assertEqual(told, family)
                self.assertEqual(common_field(read(two), read(one)), family)

    def test_the_least_shifts_count_not_the_families_of_the_texts(self):
        gaps = "[./.;12,0;0,12]"
        self.assertEqual(common_field(read(gaps), read("[1;11,0;0,11]")), (11, 11, 0))
        self.assertEqual(common_field(read("[1212;12,0;0,12]"), read(gaps)), (12, 12, 0))
        repeated = "[12121212/21212121;8,0;0,2]"
        self.assertEqual(common_field(read(repeated), read("([12;2,0;1,1]|[3;11,0;0,9])")), (2, 1, 1))
        great = read(written(GREAT_TREES[0]))
        self.assertEqual(common_field(great, read(gaps)), (90, 8, 0))
        self.assertEqual(common_field(great, great), (90, 8, 0))

    def test_too_great(self):
        for one, two in both_ways(BEYOND):
            with self.subTest(one=one, two=two):
                with self.assertRaises(TooGreat) as caught:
                    common_field(read(one), read(two))
                self.assertIs(type(caught.exception), TooGreat)

    def test_drawn_pairs(self):
        chance = random.Random(42)
        trees = [drawn_folded(chance) for _ in range(25)] + good_trees(chance, 0, 9, 4, 25) + GREAT_TREES
        met = {True: 0, False: 0}
        for place, one in enumerate(trees):
            for two in trees[place % 4::4]:
                common = slow_common(one, two)
                pair = read(written(one)), read(written(two))
                if common is None:
                    self.assertEqual(refusal(common_field, *pair), ("TooGreat",), (one, two))
                else:
                    self.assertEqual(common_field(*pair), common, (one, two))
                met[common is None] += 1
        self.assertGreater(min(met.values()), 50)


class FirstParting(unittest.TestCase):
    def test_none_where_they_are_one(self):
        for one, two in both_ways(ALIKE):
            self.assertIsNone(first_parting(read(one), read(two)))
            self.assertIsNone(first_parting(read(one), read(one)))

    def test_told_answers(self):
        for one, two, cell in UNLIKE:
            for pair in ((one, two), (two, one)):
                with self.subTest(pair=pair):
                    told = first_parting(read(pair[0]), read(pair[1]))
                    self.assertIs(type(told), tuple)
                    self.assertEqual([type(number) for number in told], [int, int])
                    self.assertEqual(told, cell)

    def test_by_rows_not_by_columns(self):
        # They part at (0, 1) and at (2, 0), whose y is less.
        self.assertEqual(first_parting(read("[123/456;3,0;0,2]"), read("[124/356;3,0;0,2]")), (2, 0))

    def test_one_cell_alone_of_a_great_field(self):
        hole, plain = read(written(holes(GAPS))), read(written(PLAIN))
        self.assertEqual(first_parting(hole, plain), (39, 17))
        self.assertEqual(first_parting(plain, hole), (39, 17))
        shifted = read(written(("shift", -12, -5, holes(GAPS))))
        self.assertEqual(first_parting(shifted, plain), (27, 12))
        self.assertEqual(first_parting(shifted, hole), (27, 12))
        turned = read(written(("turn", holes(GAPS))))
        self.assertEqual(first_parting(turned, plain), (1, 39))
        two, three = (read(written(holes(motif(hue, (1, 0), (0, 1))))) for hue in "23")
        self.assertEqual(first_parting(two, three), (39, 17))

    def test_too_great_also_where_they_part_early(self):
        for one, two in both_ways(BEYOND + [("[1;12,0;0,12]", "[2;11,0;0,11]"), ("[12;12,5;1,9]", "[21;7,0;0,1]")]):
            with self.subTest(one=one, two=two):
                with self.assertRaises(TooGreat) as caught:
                    first_parting(read(one), read(two))
                self.assertIs(type(caught.exception), TooGreat)

    def test_one_pattern_by_texts_of_which_the_families_meet_too_great(self):
        # By the least shifts the common family is small: nothing is refused.
        one, two = read("[12121212/21212121;8,0;0,2]"), read("([12;2,0;1,1]|[3;11,0;0,9])")
        meeting = family_where(lambda x, y: in_family(one.shifts, x, y) and in_family(two.shifts, x, y))
        self.assertIsNone(meeting)
        self.assertIsNone(first_parting(one, two))
        self.assertEqual(first_parting(one, read("h12([12;2,0;1,1]|[3;11,0;0,9])")), (0, 0))

    def test_drawn_pairs(self):
        chance = random.Random(43)
        trees = [drawn_folded(chance) for _ in range(30)] + good_trees(chance, 1, 6, 3, 20) + GREAT_TREES
        met = {"one": 0, "parted": 0, "TooGreat": 0}
        for place, one in enumerate(trees):
            for two in trees[place % 3::3] + [("shift", 1, 0, one), ("mirror", one), ("hue", 1, 3, one)]:
                pair = read(written(one)), read(written(two))
                if slow_common(one, two) is None:
                    self.assertEqual(refusal(first_parting, *pair), ("TooGreat",), (one, two))
                    met["TooGreat"] += 1
                    continue
                parting = slow_parting(one, two)
                self.assertEqual(first_parting(*pair), parting, (one, two))
                met["one" if parting is None else "parted"] += 1
                self.assertIs(one_pattern(*pair), parting is None)
        self.assertGreater(min(met.values()), 20)


class Apart(unittest.TestCase):
    def test_a_refused_call_changes_nothing_and_may_be_made_again(self):
        one, two = read("[1;12,0;0,12]"), read("[1;11,0;0,11]")
        for _ in range(3):
            self.assertEqual(refusal(common_field, one, two), ("TooGreat",))
            self.assertEqual(refusal(first_parting, one, two), ("TooGreat",))
            self.assertEqual((one.text, one.shifts), ("[1;12,0;0,12]", (12, 12, 0)))
            self.assertEqual((two.text, two.shifts), ("[1;11,0;0,11]", (11, 11, 0)))
            self.assertEqual(common_field(one, one), (12, 12, 0))
            self.assertIsNone(first_parting(two, two))
        self.assertEqual(own_family(motif("1", (12, 0), (0, 12))), one.shifts)


if __name__ == "__main__":
    unittest.main()
