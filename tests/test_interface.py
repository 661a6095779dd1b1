"""The interface: its names, where they are defined, and the names of their arguments."""

import unittest
from importlib import import_module
from inspect import isclass, isfunction, signature

FUNCTIONS = {
    "rotward.field": {
        "double": ["a"],
        "product": ["a", "b"],
        "inverse": ["a"],
    },
    "rotward.words": {
        "weight": ["x", "places", "i"],
        "sector_at": ["x", "given"],
        "make_word": ["parts", "n"],
        "accepted": ["cells", "k", "s"],
        "read_word": ["cells", "k", "s"],
        "vote": ["cells", "s"],
    },
}
CLASSES = {
    "rotward.errors": [
        "RotError", "Refused", "InvalidArgument", "PowerOff", "NotFormatted", "AlreadyFormatted",
        "FilesOpen", "FilesClosed", "FilesLost", "DisksFull", "DamagedData",
    ],
}


class TestInterface(unittest.TestCase):
    def test_functions(self):
        for module, functions in FUNCTIONS.items():
            for name, arguments in functions.items():
                function = getattr(import_module(module), name)
                self.assertTrue(isfunction(function), name)
                self.assertEqual(function.__module__, module)
                self.assertEqual(function.__name__, name)
                self.assertEqual(list(signature(function).parameters), arguments)

    def test_classes(self):
        for module, classes in CLASSES.items():
            for name in classes:
                made = getattr(import_module(module), name)
                self.assertTrue(isclass(made), name)
                self.assertEqual(made.__module__, module)
                self.assertEqual(made.__name__, name)

    def test_arguments_of_refused(self):
        refused = import_module("rotward.errors").Refused
        self.assertEqual(list(signature(refused).parameters), ["index", "problem"])
