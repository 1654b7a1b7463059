"""Families of shifts: spread, among, home, met, mirrored, turned."""

import unittest

from families import GREAT, basis, families_of, families_up_to, field, in_family, is_family, is_sum
from motiffield.shifts import among, home, met, mirrored, spread, turned

VAST = (10 ** 12, 10 ** 12 + 1, 10 ** 40 + 7, 3 ** 200)
WINDOW = [(x, y) for x in range(-9, 10) for y in range(-9, 10)]


class Spread(unittest.TestCase):
    def test_told_answers(self):
        told = [
            ((2, 0), (1, 1), (2, 1, 1)),
            ((1, 0), (0, 1), (1, 1, 0)),
            ((0, 1), (1, 0), (1, 1, 0)),
            ((0, 1), (5, 1), (5, 1, 0)),
            ((2, 0), (0, 2), (2, 2, 0)),
            ((3, 0), (-1, 2), (3, 2, 2)),
            ((3, 0), (1, -2), (3, 2, 2)),
            ((-3, 0), (1, 2), (3, 2, 1)),
            ((3, 2), (1, 4), (5, 2, 3)),
            ((4, 6), (2, 9), (8, 3, 6)),
            ((12, 0), (0, 12), (12, 12, 0)),
            ((-12, 0), (0, -12), (12, 12, 0)),
            ((12, 12), (12, -12), (24, 12, 12)),
            ((-12, 12), (-12, -12), (24, 12, 12)),
            ((12, -11), (-11, 12), (23, 1, 1)),
            ((-12, 11), (12, -12), (12, 1, 0)),
        ]
        for first, second, family in told:
            with self.subTest(first=first, second=second):
                self.assertEqual(spread(first, second), family)

    def test_along_one_line(self):
        lines = [
            ((0, 0), (0, 0)), ((0, 0), (3, 5)), ((3, 5), (0, 0)), ((0, 0), (0, 7)), ((-4, 0), (0, 0)),
            ((2, 0), (5, 0)), ((0, 2), (0, -3)), ((1, 2), (2, 4)), ((6, -9), (-4, 6)), ((3, 3), (3, 3)),
            ((12, 12), (-12, -12)), ((-12, 0), (12, 0)), ((0, 12), (0, -12)), ((12, -12), (-12, 12)),
        ]
        for first, second in lines:
            with self.subTest(first=first, second=second):
                self.assertIsNone(spread(first, second))

    def test_every_pair_of_shifts_in_the_range(self):
        shifts = [(x, y) for x in range(-12, 13) for y in range(-12, 13)]
        for first in shifts:
            for second in shifts:
                family = spread(first, second)
                if first[0] * second[1] == first[1] * second[0]:
                    right = family is None
                else:
                    right = is_family(family) and self.same_sums(family, first, second)
                if not right:
                    self.fail(f"spread({first}, {second}) told {family}")

    def same_sums(self, family, first, second):
        """Whether each of two pairs of shifts is made of sums of the other one."""
        level, slanted = basis(family)
        return (
            in_family(family, *first)
            and in_family(family, *second)
            and is_sum(level, first, second)
            and is_sum(slanted, first, second)
        )

    def test_a_family_is_told_by_one_tuple(self):
        for family in families_up_to(16) + GREAT:
            level, slanted = basis(family)
            for many in (-3, -1, 0, 1, 2):
                leaning = (slanted[0] + many * level[0], slanted[1])
                steep = (level[0] + many * leaning[0], many * leaning[1])
                back = (-leaning[0], -leaning[1])
                with self.subTest(family=family, many=many):
                    self.assertEqual(spread(level, leaning), family)
                    self.assertEqual(spread(leaning, level), family)
                    self.assertEqual(spread(steep, leaning), family)
                    self.assertEqual(spread(back, steep), family)

    def test_numbers_somewhat_beyond_the_range(self):
        self.assertEqual(spread((13, 0), (0, 40)), (13, 40, 0))
        self.assertEqual(spread((-100, 50), (30, 70)), (850, 10, 490))


class Among(unittest.TestCase):
    def test_told_answers(self):
        told = [
            ((2, 1, 1), (1, 1), True), ((2, 1, 1), (1, 0), False), ((2, 1, 1), (-1, 1), True),
            ((2, 1, 1), (-3, -5), True), ((2, 1, 1), (-3, -4), False), ((1, 1, 0), (-7, 9), True),
            ((5, 3, 2), (0, 0), True), ((5, 3, 2), (2, 3), True), ((5, 3, 2), (-2, 3), False),
            ((5, 3, 2), (-2, -3), True), ((5, 3, 2), (4, 6), True), ((5, 3, 2), (5, 1), False),
            ((1, 4, 0), (9, -8), True), ((1, 4, 0), (9, -7), False), ((7, 1, 3), (-3, -1), True),
        ]
        for family, shift, answer in told:
            with self.subTest(family=family, shift=shift):
                self.assertIs(among(family, *shift), answer)

    def test_by_the_meaning_of_the_tuple(self):
        for family in families_up_to(16) + GREAT:
            for x, y in WINDOW:
                if among(family, x, y) is not in_family(family, x, y):
                    self.fail(f"among({family}, {x}, {y})")

    def test_sums_of_the_two_shifts_and_cells_beside_them(self):
        whole = (-(3 ** 200), -(10 ** 12), -5, -1, 0, 1, 2, 11, 10 ** 12, 10 ** 40 + 7)
        for family in families_of(6) + GREAT:
            width, height, slant = family
            beside = [(1, 0), (width - 1, 0), (0, height - 1), (width // 2, height // 2)]
            for a in whole:
                for b in whole:
                    x = a * width + b * slant
                    y = b * height
                    self.assertIs(among(family, x, y), True)
                    for more, below in beside:
                        if (more, below) != (0, 0) and more < width:
                            self.assertIs(among(family, x + more, y + below), False)


class Home(unittest.TestCase):
    def test_told_answers(self):
        told = [
            ((5, 3, 2), (0, 0), (0, 0)), ((5, 3, 2), (4, 2), (4, 2)), ((5, 3, 2), (5, 0), (0, 0)),
            ((5, 3, 2), (0, 3), (3, 0)), ((5, 3, 2), (0, -1), (2, 2)), ((5, 3, 2), (-1, 0), (4, 0)),
            ((5, 3, 2), (-1, -4), (3, 2)), ((1, 4, 0), (-9, -3), (0, 1)), ((7, 1, 3), (0, 1), (4, 0)),
            ((7, 1, 3), (0, -1), (3, 0)), ((1, 1, 0), (-12, 12), (0, 0)), ((720, 1, 1), (0, 1), (719, 0)),
        ]
        for family, cell, answer in told:
            with self.subTest(family=family, cell=cell):
                self.assertEqual(home(family, *cell), answer)

    def test_cells_of_the_field_stay(self):
        for family in families_up_to(12) + GREAT:
            for cell in field(family):
                if home(family, *cell) != cell:
                    self.fail(f"home({family}, {cell})")

    def test_near_and_far_cells(self):
        numbers = [-11, -2, -1, 0, 1, 3, 10] + list(VAST) + [-number for number in VAST]
        for family in families_up_to(8) + GREAT:
            for x in numbers:
                for y in numbers:
                    if not self.is_home(family, x, y, home(family, x, y)):
                        self.fail(f"home({family}, {x}, {y})")

    def is_home(self, family, x, y, cell):
        return (
            type(cell) is tuple
            and len(cell) == 2
            and type(cell[0]) is int
            and type(cell[1]) is int
            and 0 <= cell[0] < family[0]
            and 0 <= cell[1] < family[1]
            and in_family(family, x - cell[0], y - cell[1])
        )

    def test_one_home_for_cells_that_a_shift_parts(self):
        for family in families_up_to(8) + GREAT:
            width, height, slant = family
            for a, b in ((1, 0), (0, 1), (-4, 3), (10 ** 40, -(3 ** 200))):
                for x, y in ((0, 0), (2, -5), (-7, 1)):
                    shifted = home(family, x + a * width + b * slant, y + b * height)
                    self.assertEqual(shifted, home(family, x, y))


class Met(unittest.TestCase):
    def check(self, one, two):
        """The answer is right just where its two shifts are in both, and no other cell of its field is."""
        family = met(one, two)
        self.assertTrue(is_family(family), (one, two, family))
        for shift in basis(family):
            if not (in_family(one, *shift) and in_family(two, *shift)):
                self.fail(f"met({one}, {two}) told {family}, whose shift {shift} is not in both")
        for x, y in field(family)[1:]:
            if in_family(one, x, y) and in_family(two, x, y):
                self.fail(f"met({one}, {two}) told {family} without the shift {(x, y)}")
        return family

    def test_told_answers(self):
        told = [
            ((2, 1, 1), (2, 2, 0), (2, 2, 0)), ((2, 2, 0), (5, 1, 0), (10, 2, 0)),
            ((2, 1, 0), (2, 1, 1), (2, 2, 0)), ((3, 1, 1), (3, 1, 2), (3, 3, 0)),
            ((2, 1, 1), (3, 1, 1), (6, 1, 1)), ((4, 1, 1), (6, 1, 5), (12, 1, 5)),
            ((4, 1, 1), (6, 1, 2), (12, 2, 10)), ((1, 4, 0), (1, 6, 0), (1, 12, 0)),
        ]
        for one, two, family in told:
            with self.subTest(one=one, two=two):
                self.assertEqual(met(one, two), family)

    def test_with_itself(self):
        for family in families_up_to(24) + GREAT:
            self.assertEqual(met(family, family), family)

    def test_with_all_shifts(self):
        for family in families_up_to(24) + GREAT:
            self.assertEqual(met(family, (1, 1, 0)), family)
            self.assertEqual(met((1, 1, 0), family), family)

    def test_one_within_the_other(self):
        for family in families_up_to(12):
            width, height, slant = family
            for within in ((2 * width, height, slant), (width, 3 * height, 3 * slant % width),
                           (2 * width, 3 * height, (3 * slant + width) % (2 * width))):
                self.assertEqual(met(family, within), within)
                self.assertEqual(met(within, family), within)

    def test_every_pair_of_small_families(self):
        families = families_up_to(9)
        for one in families:
            for two in families:
                self.assertEqual(self.check(one, two), met(two, one))

    def test_no_common_measure(self):
        self.assertEqual(self.check((7, 1, 0), (1, 9, 0)), (7, 9, 0))
        self.assertEqual(self.check((5, 3, 2), (7, 4, 1))[:2], (35, 12))
        self.assertEqual(self.check((4, 5, 3), (9, 2, 8))[:2], (36, 10))

    def test_more_cells_than_a_field_may_have(self):
        self.assertEqual(self.check((720, 1, 0), (719, 1, 0)), (517680, 1, 0))
        self.assertEqual(self.check((1, 720, 0), (1, 719, 0)), (1, 517680, 0))
        self.assertEqual(self.check((720, 1, 0), (1, 720, 0)), (720, 720, 0))
        self.assertEqual(self.check((720, 1, 1), (720, 1, 719)), (720, 360, 360))
        self.assertEqual(self.check((24, 30, 23), (30, 24, 10))[0], 120)
        for one, two in (((360, 2, 7), (27, 26, 9)), ((719, 1, 5), (720, 1, 719)), ((2, 360, 1), (24, 30, 23))):
            family = self.check(one, two)
            self.assertGreater(family[0] * family[1], 720)

    def test_families_somewhat_beyond_the_range(self):
        self.check((1000, 1, 3), (750, 2, 11))
        self.assertEqual(met((517680, 1, 0), (720, 1, 0)), (517680, 1, 0))

    def test_over_many_shifts_by_among(self):
        families = families_up_to(5) + [(12, 1, 5), (6, 2, 3), (4, 3, 1), (1, 7, 0)]
        for one in families:
            for two in families:
                both = met(one, two)
                for x, y in WINDOW:
                    if among(both, x, y) is not (among(one, x, y) and among(two, x, y)):
                        self.fail(f"met({one}, {two}) told {both}, and ({x}, {y}) is amiss")


class MirroredAndTurned(unittest.TestCase):
    def test_told_answers(self):
        told = [
            ((5, 3, 2), (5, 3, 3), (15, 1, 6)), ((5, 3, 0), (5, 3, 0), (3, 5, 0)),
            ((1, 4, 0), (1, 4, 0), (4, 1, 0)), ((7, 1, 3), (7, 1, 4), (7, 1, 2)),
            ((1, 1, 0), (1, 1, 0), (1, 1, 0)), ((2, 1, 1), (2, 1, 1), (2, 1, 1)),
            ((720, 1, 0), (720, 1, 0), (1, 720, 0)), ((6, 2, 4), (6, 2, 2), (6, 2, 2)),
            ((5, 1, 1), (5, 1, 4), (5, 1, 4)), ((5, 1, 2), (5, 1, 3), (5, 1, 2)),
        ]
        for family, mirror, turn in told:
            with self.subTest(family=family):
                self.assertEqual(mirrored(family), mirror)
                self.assertEqual(turned(family), turn)

    def test_each_shift_goes_over(self):
        for family in families_up_to(16) + GREAT:
            mirror = mirrored(family)
            turn = turned(family)
            self.assertTrue(is_family(mirror), (family, mirror))
            self.assertTrue(is_family(turn), (family, turn))
            for x, y in WINDOW + list(basis(family)):
                there = in_family(family, x, y)
                if in_family(mirror, -x, y) is not there or in_family(turn, -y, x) is not there:
                    self.fail(f"{family}: mirrored {mirror}, turned {turn}, amiss for the shift ({x}, {y})")

    def test_as_many_cells_and_both_ways_within(self):
        for family in families_of(720):
            mirror = mirrored(family)
            turn = turned(family)
            self.assertEqual((mirror[0] * mirror[1], turn[0] * turn[1]), (720, 720))
            for x, y in basis(family):
                self.assertTrue(in_family(mirror, -x, y))
                self.assertTrue(in_family(turn, -y, x))

    def test_back_again(self):
        for family in families_up_to(24) + families_of(720) + GREAT:
            self.assertEqual(mirrored(mirrored(family)), family)
            self.assertEqual(turned(turned(family)), family)
            self.assertEqual(turned(turned(turned(turned(family)))), family)


class Apart(unittest.TestCase):
    def test_a_call_leaves_what_is_handed_in_and_no_trace(self):
        first, second = (4, 6), (-2, 9)
        one, two = (5, 3, 2), (4, 2, 1)

        def answers():
            return (
                spread(first, second), among(one, 7, 3), home(two, -9, 8),
                met(one, two), mirrored(one), turned(two),
            )

        before = answers()
        spread((1, 2), (2, 4))
        met(two, one)
        turned((720, 1, 7))
        self.assertEqual(answers(), before)
        self.assertEqual((first, second, one, two), ((4, 6), (-2, 9), (5, 3, 2), (4, 2, 1)))


if __name__ == "__main__":
    unittest.main()
