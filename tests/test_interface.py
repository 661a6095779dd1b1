"""The interface: its names, where they are defined, and the names of their arguments."""

import unittest
from importlib import import_module
from inspect import isclass, isfunction, signature

FUNCTIONS = {
    "rotward.field": {
        "double": ["a"],
        "product": ["a", "b"],
        "inverse": ["a"],
    },
    "rotward.words": {
        "weight": ["x", "places", "i"],
        "sector_at": ["x", "given"],
        "make_word": ["parts", "n"],
        "accepted": ["cells", "k", "s"],
        "read_word": ["cells", "k", "s"],
        "vote": ["cells", "s"],
    },
    "rotward.codes": {
        "write_number": ["number"],
        "write_path": ["path"],
        "write_record": ["record"],
        "write_group": ["records"],
        "write_image": ["commits", "state"],
    },
    "rotward.log": {
        "area_size": ["sectors"],
        "area_start": ["sectors", "area"],
        "region_start": ["sectors"],
        "stripe_count": ["sectors"],
        "log_block": ["data"],
        "read_block": ["sectors", "start"],
        "tail": ["commits", "area", "image", "counting"],
        "read_tail": ["sector"],
    },
}
CLASSES = {
    "rotward.errors": [
        "RotError", "Refused", "InvalidArgument", "PowerOff", "NotFormatted", "AlreadyFormatted",
        "FilesOpen", "FilesClosed", "FilesLost", "DisksFull", "DamagedData",
    ],
    "rotward.disks": ["Disks"],
    "rotward.trees": ["Tree"],
    "rotward.states": ["State", "Plan"],
    "rotward.codes": ["Reader"],
    "rotward.log": ["Log"],
    "rotward.files": ["Files"],
}
METHODS = {
    ("rotward.disks", "Disks"): {
        "__init__": ["disks", "sectors", "carrying", "depth"],
        "sizes": [], "counts": [], "is_on": [], "losses": [], "is_there": ["disk"],
        "cell": ["disk", "sector"], "pending": ["disk"], "ask": ["disk", "sector"],
        "write": ["disk", "sector", "data"], "sync": [], "rot": ["disk", "sector", "data"],
        "bad": ["disk", "sector"], "away": ["disk"], "blank": ["disk"],
        "fail_after": ["operations"], "power": ["kept"],
    },
    ("rotward.trees", "Tree"): {
        "__init__": [], "copy": [], "problem": ["change"], "made": ["change"],
        "made_all": ["changes"],
    },
    ("rotward.states", "State"): {
        "__init__": ["stripes", "block"], "copy": [], "used": [], "data": [], "after": ["record"],
    },
    ("rotward.states", "Plan"): {"__init__": ["state", "changes"], "writes": ["found"]},
    ("rotward.codes", "Reader"): {
        "__init__": ["data"], "read_number": [], "read_path": [], "read_record": [], "read_group": [],
        "read_image": ["stripes", "block"], "end": [],
    },
    ("rotward.log", "Log"): {
        "__init__": ["commits", "area", "image", "sectors"], "tail": [],
        "grown": ["state", "records", "size"], "state": ["stripes", "block"],
    },
    ("rotward.files", "Files"): {
        "__init__": ["disks", "new"], "change": ["changes"],
        "read": ["path", "start", "end", "snapshot"], "tree": ["snapshot"], "snapshots": [],
        "scrub": ["steps"], "status": [],
    },
}


class TestInterface(unittest.TestCase):
    def test_functions(self):
        for module, functions in FUNCTIONS.items():
            for name, arguments in functions.items():
                function = getattr(import_module(module), name)
                self.assertTrue(isfunction(function), name)
                self.assertEqual(function.__module__, module)
                self.assertEqual(function.__name__, name)
                self.assertEqual(list(signature(function).parameters), arguments)

    def test_classes(self):
        for module, classes in CLASSES.items():
            for name in classes:
                made = getattr(import_module(module), name)
                self.assertTrue(isclass(made), name)
                self.assertEqual(made.__module__, module)
                self.assertEqual(made.__name__, name)

    def test_methods_stand_in_their_class(self):
        for (module, name), methods in METHODS.items():
            made = getattr(import_module(module), name)
            for method, arguments in methods.items():
                self.assertIn(method, vars(made), name)
                self.assertEqual(list(signature(vars(made)[method]).parameters),
                                 ["self"] + arguments, (name, method))

    def test_attributes_are_set_when_objects_are_created(self):
        disks = import_module("rotward.disks").Disks(4, 48, 2, 1)
        tree = import_module("rotward.trees").Tree()
        state = import_module("rotward.states").State(9, 64)
        plan = import_module("rotward.states").Plan(state, [])
        reader = import_module("rotward.codes").Reader([])
        log = import_module("rotward.log").Log(0, 0, 1, [[0] * 32])
        for made, names in [(disks, ["formatted", "in_use", "scrub_place"]),
                            (tree, ["snapshots", "things"]), (state, ["snapshots", "things"]),
                            (plan, ["after", "reads", "records"]), (reader, ["at"]),
                            (log, ["area", "commits", "image", "sectors"])]:
            for name in names:
                self.assertIn(name, vars(made))

    def test_the_snapshot_may_be_left_out(self):
        files = import_module("rotward.files").Files
        for method in (files.read, files.tree):
            self.assertIsNone(signature(method).parameters["snapshot"].default)

    def test_arguments_of_refused(self):
        refused = import_module("rotward.errors").Refused
        self.assertEqual(list(signature(refused).parameters), ["index", "problem"])
