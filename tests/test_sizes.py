"""The five bounds and their values."""

import unittest

from motiffield import sizes


class Sizes(unittest.TestCase):
    def test_names_and_values(self):
        values = {"MOST": 720, "FAR": 10 ** 12, "DEEP": 5, "SIDE": 30, "KEPT": 20}
        for name, value in values.items():
            with self.subTest(name):
                self.assertEqual(getattr(sizes, name), value)
                self.assertIs(type(getattr(sizes, name)), int)


if __name__ == "__main__":
    unittest.main()
