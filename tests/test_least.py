"""The least form: `least_shifts` and `least_form`."""

import random
import unittest

from families import basis, field, in_family, is_family
from motiffield.least import least_form, least_shifts
from motiffield.reader import read
from patterns import GAPS, GREAT_TREES, PLAIN, drawn_folded, holes, leaves_all, over, own_family, slow_form, slow_least
from texts import good_trees, motif, shown, written

WINDOW = [(x, y) for y in range(-13, 14) for x in range(-13, 14)]


def form_of(text):
    return least_form(read(text))


class Told(unittest.TestCase):
    def test_the_examples(self):
        self.assertEqual(form_of("[12;2,0;1,1]"), (2, 1, 1, ("12",)))
        self.assertEqual(form_of("([12/21;2,0;0,2]|[3;5,1;0,1])"), (2, 1, 1, ("12",)))

    def test_gaps_alone(self):
        for text in (
            "[.;1,0;0,1]", "[..../....;12,0;0,12]", "[.;12,5;1,9]", "mts3,4:h12[../..;5,1;0,3]",
            "([...;9,0;0,8]|[./.;10,0;0,1])", "([.;2,0;0,2]|([.;3,0;0,3]|t[.;1,1;-1,4]))",
        ):
            with self.subTest(text):
                self.assertEqual(form_of(text), (1, 1, 0, (".",)))

    def test_one_hue_alone(self):
        for text in ("[6;1,0;0,1]", "[66/66;2,0;0,2]", "h56[56/65;2,0;0,2]", "([6.;2,0;0,1]|[6;1,0;0,1])"):
            self.assertEqual(form_of(text), (1, 1, 0, ("6",)))

    def test_told_answers(self):
        answers = {
            "[1;5,0;0,3]": (5, 3, 0, ("1....", ".....", ".....")),
            "[1212;4,0;0,1]": (2, 1, 0, ("12",)),
            "[1213;4,0;0,1]": (4, 1, 0, ("1213",)),
            "[12/12;2,0;0,2]": (2, 1, 0, ("12",)),
            "[1/2/1/2;1,0;0,4]": (1, 2, 0, ("1", "2")),
            "[12/21;2,0;0,2]": (2, 1, 1, ("12",)),
            "[123/231/312;3,0;0,3]": (3, 1, 2, ("123",)),
            "[123/312/231;3,0;0,3]": (3, 1, 1, ("123",)),
            "[1234/3412;4,0;0,2]": (4, 1, 2, ("1234",)),
            "[12../..12;4,0;0,2]": (4, 1, 2, ("12..",)),
            "[11../..22;4,0;0,2]": (4, 2, 0, ("11..", "..22")),
            "h21[11../..22;4,0;0,2]": (4, 1, 2, ("11..",)),
            "[1.../..../..1./....;4,0;0,4]": (4, 2, 2, ("1...", "....")),
            "t[123;3,0;0,1]": (1, 3, 0, ("1", "2", "3")),
            "s1,0:[123;3,0;0,1]": (3, 1, 0, ("312",)),
            "m[123;3,0;1,1]": (3, 1, 2, ("132",)),
            "([1.;2,0;0,1]|[.1;2,0;0,1])": (1, 1, 0, ("1",)),
            "([1..;3,0;0,1]|[1;2,0;0,1])": (6, 1, 0, ("1.111.",)),
            "([1;2,0;0,1]|[1;4,0;0,1])": (2, 1, 0, ("1.",)),
        }
        for text, form in answers.items():
            with self.subTest(text):
                self.assertEqual(form_of(text), form)
                self.assertEqual(least_shifts(read(text)), form[:3])

    def test_kinds(self):
        for tree in GREAT_TREES + [GAPS, PLAIN]:
            pattern = read(written(tree))
            form = least_form(pattern)
            self.assertTrue(is_family(least_shifts(pattern)))
            self.assertIs(type(form), tuple)
            self.assertEqual(len(form), 4)
            self.assertTrue(is_family(form[:3]))
            self.assertIs(type(form[3]), tuple)
            self.assertEqual(len(form[3]), form[1])
            for row in form[3]:
                self.assertIs(type(row), str)
                self.assertEqual(len(row), form[0])


class AgainstTheSlowSearch(unittest.TestCase):
    def hold(self, tree):
        text = written(tree)
        pattern = read(text)
        least = least_shifts(pattern)
        own = own_family(tree)
        self.assertTrue(is_family(least), text)
        self.assertLessEqual(least[0] * least[1], own[0] * own[1], text)
        for shift in basis(least) + basis(own):
            if not (leaves_all(tree, *shift) and in_family(least, *shift)):
                self.fail(f"{text}: least shifts {least}, amiss for the shift {shift}")
        # Each other shift is one of these and one of the text's family: so none is left out.
        for shift in field(own):
            if in_family(least, *shift) is not leaves_all(tree, *shift):
                self.fail(f"{text}: least shifts {least}, amiss for the shift {shift}")
        self.assertEqual(least, slow_least(tree), text)
        self.assertEqual(least_form(pattern), slow_form(tree), text)

    def test_texts_that_repeat_within_their_field(self):
        chance = random.Random(31)
        fewer = 0
        for _ in range(400):
            tree = drawn_folded(chance)
            self.hold(tree)
            fewer += slow_least(tree) != own_family(tree)
        self.assertGreater(fewer, 200)

    def test_drawn_texts(self):
        chance = random.Random(32)
        for deep, reach, side in ((0, 12, 8), (1, 6, 4), (2, 4, 3), (3, 3, 3), (4, 2, 2), (5, 2, 2)):
            for tree in good_trees(chance, deep, reach, side, 40):
                self.hold(tree)

    def test_families_of_720_cells(self):
        for tree in GREAT_TREES:
            own = own_family(tree)
            self.assertEqual(own[0] * own[1], 720)
            self.hold(tree)
        # From one cell to all of them is to be seen here.
        cells = {slow_least(tree)[0] * slow_least(tree)[1] for tree in GREAT_TREES}
        self.assertLessEqual({1, 2, 10, 720}, cells)

    def test_a_field_that_one_cell_alone_makes_great(self):
        self.assertEqual(least_shifts(read(written(holes(GAPS)))), (40, 18, 0))
        self.assertEqual(least_shifts(read(written(holes(PLAIN)))), (1, 1, 0))
        self.assertEqual(least_shifts(read(written(("hue", 2, 1, holes(motif("2", (1, 0), (0, 1))))))), (1, 1, 0))

    def test_the_rows_are_the_cells_of_the_field(self):
        chance = random.Random(33)
        for _ in range(40):
            tree = drawn_folded(chance)
            width, height, slant, rows = least_form(read(written(tree)))
            for y in range(height):
                self.assertEqual([int(sign.replace(".", "0")) for sign in rows[y]],
                                 [shown(tree, x, y) for x in range(width)])

    def test_the_shifts_by_the_plain_reading(self):
        # No field is used here at all: each cell of a window beside its shifted one.
        chance = random.Random(34)
        for _ in range(30):
            tree = drawn_folded(chance)
            least = least_shifts(read(written(tree)))
            for x, y in basis(least):
                for cell in WINDOW[::5]:
                    self.assertEqual(shown(tree, cell[0] + x, cell[1] + y), shown(tree, *cell))


class Apart(unittest.TestCase):
    def test_patterns_are_left_as_they_are(self):
        trees = [over(motif("12/21", (2, 0), (0, 2)), motif("3", (5, 1), (0, 1))), GREAT_TREES[0], GAPS]
        patterns = [read(written(tree)) for tree in trees]
        before = [(pattern.text, pattern.shifts, least_form(pattern)) for pattern in patterns]
        for _ in range(2):
            again = [(pattern.text, pattern.shifts, least_form(pattern)) for pattern in patterns]
            self.assertEqual(again, before)
        self.assertEqual([pattern.shifts for pattern in patterns], [own_family(tree) for tree in trees])


if __name__ == "__main__":
    unittest.main()
