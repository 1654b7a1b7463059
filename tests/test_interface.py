"""Each name of the interface is there, with its arguments, and what comes of them is of the kind told."""

import importlib
import inspect
import unittest

FUNCTIONS = {
    "shifts": {
        "spread": ["first", "second"], "among": ["family", "x", "y"], "home": ["family", "x", "y"],
        "met": ["one", "two"], "mirrored": ["family"], "turned": ["family"],
    },
    "reader": {"read": ["text"]},
    "cells": {"cell_at": ["pattern", "x", "y"], "row_from": ["pattern", "x", "y", "many"]},
    "least": {"least_shifts": ["pattern"], "least_form": ["pattern"]},
    "compare": {"one_pattern": ["one", "two"], "common_field": ["one", "two"], "first_parting": ["one", "two"]},
    "counts": {
        "count_hue": ["pattern", "hue", "left", "top", "right", "bottom"],
        "count_all": ["pattern", "left", "top", "right", "bottom"],
    },
}
METHODS = {
    "lay": ["self", "many"], "change": ["self", "text"], "undo": ["self"], "kept": ["self"], "rows": ["self"],
    "lies": ["self"], "still": ["self"],
}


def module(name):
    return importlib.import_module("motiffield." + name)


class Interface(unittest.TestCase):
    def hold(self, call, names):
        arguments = inspect.signature(call).parameters
        self.assertEqual(list(arguments), names)
        defaults = {name: got.default for name, got in arguments.items() if got.default is not inspect.Parameter.empty}
        self.assertEqual(defaults, {"many": 1} if call.__name__ == "lay" else {})

    def test_functions(self):
        for place, functions in FUNCTIONS.items():
            for name, names in functions.items():
                with self.subTest(place=place, name=name):
                    self.hold(getattr(module(place), name), names)

    def test_the_floor(self):
        made = module("floor").Floor
        self.assertTrue(inspect.isclass(made))
        self.hold(made, ["text", "width", "height"])
        for name, names in METHODS.items():
            with self.subTest(name):
                self.hold(getattr(made, name), names)

    def test_arguments_by_their_names(self):
        pattern = module("reader").read(text="[12;2,0;1,1]")
        counts = module("counts")
        self.assertEqual(counts.count_hue(pattern=pattern, hue=1, left=0, top=0, right=2, bottom=0), 2)
        self.assertEqual(counts.count_all(pattern=pattern, left=0, top=0, right=2, bottom=0), [0, 2, 1, 0, 0, 0, 0])
        self.assertEqual(module("least").least_shifts(pattern=pattern), (2, 1, 1))
        self.assertIsNone(module("compare").first_parting(one=pattern, two=pattern))
        floor = module("floor").Floor(text="[12;2,0;1,1]", width=3, height=2)
        self.assertEqual(floor.lay(many=2), ["121", "212"])
        self.assertIsNone(floor.change(text="[12;2,0;1,1]"))


if __name__ == "__main__":
    unittest.main()
