"""The first paragraph of "The interface": names, arguments and the files in which they are defined."""

import importlib
import inspect
import unittest

FUNCTIONS = {
    "maps": ["check_map(text)", "read_rows(text)", "format_map(text)", "read_floor(text)"],
    "floors": ["floor_of(near, doors, stations)"],
    "distances": [
        "distances(floor, closed, aims)",
        "distance(floor, closed, aims, position)",
        "nearer(floor, closed, aims, position)",
    ],
}

CLASSES = {
    "errors": {
        "ClearfloorError": [],
        "MapError": ["__init__(self, line, column, problem)"],
        "LineError": ["__init__(self, line)"],
        "RefusedError": ["__init__(self, reason, line=0)"],
        "LimitError": ["__init__(self, reason)"],
        "PowerCut": ["__init__(self, written)"],
        "ShutError": [],
        "MoveError": ["__init__(self, index)"],
    },
    "floors": {
        "Floor": [
            "__init__(self, near, doors, stations, places)",
            "around(self, position)",
            "place(self, position)",
            "cell_at(self, row, column)",
            "station(self, letter)",
        ],
    },
}


class InterfaceTest(unittest.TestCase):
    def check(self, module, owner, line):
        name = line.partition("(")[0]
        self.assertIn(name, vars(owner), line)
        found = vars(owner)[name]
        self.assertTrue(inspect.isfunction(found), line)
        self.assertEqual(found.__module__, module.__name__, line)
        self.assertEqual(name + str(inspect.signature(found)), line)

    def test_functions(self):
        for file, lines in FUNCTIONS.items():
            module = importlib.import_module("clearfloor." + file)
            for line in lines:
                self.check(module, module, line)

    def test_classes_and_their_methods(self):
        for file, classes in CLASSES.items():
            module = importlib.import_module("clearfloor." + file)
            for name, lines in classes.items():
                kind = getattr(module, name)
                self.assertTrue(inspect.isclass(kind), name)
                self.assertEqual(kind.__module__, module.__name__, name)
                for line in lines:
                    self.check(module, kind, line)
