"""The refusals: their classes, what they stand under, their fields."""

import copy
import unittest

from motiffield import errors

NAMES = ("WrongSign", "OneLine", "TooGreat", "TooFar", "NoRow", "Parted", "NothingKept")
PLAIN = ("TooGreat", "TooFar", "NoRow", "NothingKept")


def class_of(name):
    return getattr(errors, name)


class Classes(unittest.TestCase):
    def test_the_root_stands_right_under_value_error(self):
        self.assertEqual(errors.MotifError.__bases__, (ValueError,))

    def test_each_stands_right_under_the_root(self):
        for name in NAMES:
            with self.subTest(name):
                self.assertEqual(class_of(name).__bases__, (errors.MotifError,))
                self.assertTrue(issubclass(class_of(name), ValueError))

    def test_each_bears_its_own_name(self):
        for name in NAMES:
            self.assertEqual(class_of(name).__name__, name)

    def test_none_stands_under_another(self):
        for one in NAMES:
            for two in NAMES:
                if one != two:
                    with self.subTest(one=one, two=two):
                        self.assertFalse(issubclass(class_of(one), class_of(two)))

    def test_the_plain_ones_are_raised_and_taken_by_name_and_root(self):
        for name in PLAIN:
            for taken in (class_of(name), errors.MotifError, ValueError):
                with self.subTest(name=name, taken=taken.__name__):
                    with self.assertRaises(taken):
                        raise class_of(name)()
                    with self.assertRaises(taken):
                        raise class_of(name)("in words")


class Fields(unittest.TestCase):
    def test_place(self):
        for name in ("WrongSign", "OneLine"):
            for place in (0, 1, 10, 10 ** 30):
                with self.subTest(name=name, place=place):
                    with self.assertRaises(errors.MotifError) as caught:
                        raise class_of(name)(place)
                    self.assertIs(type(caught.exception), class_of(name))
                    self.assertEqual(caught.exception.place, place)
                    self.assertIs(type(caught.exception.place), int)

    def test_x_and_y(self):
        for x, y in ((0, 0), (3, 7), (29, 0), (0, 29)):
            with self.subTest(x=x, y=y):
                with self.assertRaises(errors.MotifError) as caught:
                    raise errors.Parted(x, y)
                self.assertIs(type(caught.exception), errors.Parted)
                self.assertEqual((caught.exception.x, caught.exception.y), (x, y))

    def test_two_objects_are_apart(self):
        one = errors.WrongSign(3)
        two = errors.WrongSign(4)
        self.assertEqual((one.place, two.place), (3, 4))

    def test_a_copy_bears_the_fields_too(self):
        self.assertEqual(copy.copy(errors.WrongSign(5)).place, 5)
        self.assertEqual(copy.copy(errors.OneLine(6)).place, 6)
        parted = copy.copy(errors.Parted(7, 8))
        self.assertEqual((parted.x, parted.y), (7, 8))


if __name__ == "__main__":
    unittest.main()
