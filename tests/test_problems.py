"""Point 18: the first problem of a change, of trees and of states."""

import unittest

from rotward.errors import Refused
from rotward.states import Plan, State
from rotward.trees import Tree

START = [("folder", ("a",)), ("folder", ("a", "b")), ("file", ("a", "f")), ("folder", ("ab",)),
         ("put", ("a", "f"), 0, (1, 2, 3, 4, 5)), ("snap", "old")]
DEEP = ("a", "b", "c", "d", "e", "g")


class TestProblems(unittest.TestCase):
    def setUp(self):
        self.tree = Tree().made_all(START)
        self.state = Plan(State(9, 4), START).after

    def told(self, *change):
        """The problem of a change of the tree, which that of the state has to be, too."""
        told = self.tree.problem(change)
        for make in (lambda: self.tree.made_all([change]), lambda: Plan(self.state, [change])):
            if told is None:
                make()
                continue
            with self.assertRaises(Refused) as caught:
                make()
            self.assertEqual((caught.exception.index, caught.exception.problem), (0, told))
        return told

    def test_of_what_comes(self):
        for kind in ("folder", "file"):
            self.assertEqual(self.told(kind, ()), ("root",))
            self.assertEqual(self.told(kind, ("x", "y")), ("no folder", ("x",)))
            self.assertEqual(self.told(kind, ("a", "f", "y")), ("no folder", ("a", "f")))
            self.assertEqual(self.told(kind, ("a", "f", "y", "z")), ("no folder", ("a", "f", "y")))
            self.assertEqual(self.told(kind, ("a",)), ("exists", ("a",)))
            self.assertEqual(self.told(kind, ("a", "f")), ("exists", ("a", "f")))
            self.assertEqual(self.told(kind, DEEP), ("no folder", DEEP[:-1]))
            for path in (("x",), ("b",), ("a", "a"), ("a", "b", "f"), ("ab", "b")):
                self.assertIsNone(self.told(kind, path))

    def test_of_a_put(self):
        self.assertEqual(self.told("put", (), 0, (1,)), ("root",))
        self.assertEqual(self.told("put", (), 9, ()), ("root",))
        self.assertEqual(self.told("put", ("x",), 9, (1,)), ("nothing", ("x",)))
        self.assertEqual(self.told("put", ("a", "f", "y"), 0, (1,)), ("nothing", ("a", "f", "y")))
        self.assertEqual(self.told("put", ("a",), 9, (1,)), ("no file", ("a",)))
        self.assertEqual(self.told("put", ("a", "b"), 0, ()), ("no file", ("a", "b")))
        self.assertEqual(self.told("put", ("a", "f"), 6, (1,)), ("behind end", ("a", "f")))
        self.assertEqual(self.told("put", ("a", "f"), 6, ()), ("behind end", ("a", "f")))
        for at in range(6):
            self.assertIsNone(self.told("put", ("a", "f"), at, (1, 2)))
            self.assertIsNone(self.told("put", ("a", "f"), at, ()))

    def test_of_a_trim(self):
        self.assertEqual(self.told("trim", (), 0), ("root",))
        self.assertEqual(self.told("trim", ("x",), 0), ("nothing", ("x",)))
        self.assertEqual(self.told("trim", DEEP, 0), ("nothing", DEEP))
        self.assertEqual(self.told("trim", ("ab",), 0), ("no file", ("ab",)))
        self.assertEqual(self.told("trim", ("a", "f"), 6), ("behind end", ("a", "f")))
        for length in range(6):
            self.assertIsNone(self.told("trim", ("a", "f"), length))

    def test_of_a_move(self):
        self.assertEqual(self.told("move", (), ()), ("root",))
        self.assertEqual(self.told("move", (), ("x",)), ("root",))
        self.assertEqual(self.told("move", ("x",), ()), ("nothing", ("x",)))
        self.assertEqual(self.told("move", ("x",), ("x",)), ("nothing", ("x",)))
        self.assertEqual(self.told("move", ("x",), ("a",)), ("nothing", ("x",)))
        self.assertEqual(self.told("move", ("a",), ("a",)), ("in itself", ("a",)))
        self.assertEqual(self.told("move", ("a",), ("a", "x")), ("in itself", ("a",)))
        self.assertEqual(self.told("move", ("a",), ("a", "b")), ("in itself", ("a",)))
        self.assertEqual(self.told("move", ("a",), ("a", "x", "y")), ("in itself", ("a",)))
        self.assertEqual(self.told("move", ("a", "f"), ("a", "f", "x")), ("in itself", ("a", "f")))
        self.assertEqual(self.told("move", ("a",), ()), ("root",))
        self.assertEqual(self.told("move", ("a",), ("x", "y")), ("no folder", ("x",)))
        self.assertEqual(self.told("move", ("ab",), ("a", "f", "y")), ("no folder", ("a", "f")))
        self.assertEqual(self.told("move", ("a", "f"), ("a",)), ("exists", ("a",)))
        self.assertEqual(self.told("move", ("a", "f"), ("a", "b")), ("exists", ("a", "b")))
        for path, to in [(("a",), ("ab", "a")), (("a",), ("b",)), (("a", "f"), ("a", "b", "f")),
                         (("ab",), ("a", "ab")), (("a", "b"), ("a", "bc"))]:
            self.assertIsNone(self.told("move", path, to))

    def test_of_a_drop(self):
        self.assertEqual(self.told("drop", ()), ("root",))
        self.assertEqual(self.told("drop", ("b",)), ("nothing", ("b",)))
        self.assertEqual(self.told("drop", DEEP), ("nothing", DEEP))
        for path in (("a",), ("a", "b"), ("a", "f")):
            self.assertIsNone(self.told("drop", path))

    def test_of_snapshots(self):
        self.assertEqual(self.told("snap", "old"), ("snapshot", "old"))
        self.assertIsNone(self.told("snap", "new"))
        for kind in ("forget", "back"):
            self.assertEqual(self.told(kind, "new"), ("no snapshot", "new"))
            self.assertIsNone(self.told(kind, "old"))

    def test_what_a_snapshot_has_is_not_there_now(self):
        rows = [("drop", ("a",)), ("drop", ("ab",))]
        self.tree = self.tree.made_all(rows)
        self.state = Plan(self.state, rows).after
        self.assertEqual(self.told("drop", ("a",)), ("nothing", ("a",)))
        self.assertEqual(self.told("file", ("a", "f")), ("no folder", ("a",)))
        self.assertIsNone(self.told("file", ("a",)))
