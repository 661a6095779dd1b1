"""Points 15 to 17: what the changes make of files, folders and snapshots."""

import unittest
from copy import deepcopy

from rotward.errors import Refused
from rotward.trees import Tree
from tests.tree_rules import Chance, RuleTree

START = [("folder", ("a",)), ("folder", ("a", "b")), ("file", ("a", "f")), ("file", ("a", "b", "g")),
         ("folder", ("ab",)), ("file", ("h",)), ("put", ("a", "f"), 0, (1, 2, 3, 4, 5)),
         ("put", ("h",), 0, (7, 8, 9)), ("snap", "old"), ("put", ("h",), 0, (6,))]
THINGS = {("a",): None, ("a", "b"): None, ("a", "f"): (1, 2, 3, 4, 5), ("a", "b", "g"): (),
          ("ab",): None, ("h",): (6, 8, 9)}
OLD = {**THINGS, ("h",): (7, 8, 9)}


class TreeCase(unittest.TestCase):
    def setUp(self):
        self.tree = Tree().made_all(START)

    def after(self, *changes):
        """The things after changes; the tree itself is checked to stay as it is."""
        before = deepcopy((self.tree.things, self.tree.snapshots))
        tree = self.tree
        for change in changes:
            self.assertIsNone(tree.problem(change))
            tree = tree.made(change)
        self.assertEqual((self.tree.things, self.tree.snapshots), before)
        together = self.tree.made_all(list(changes))
        self.assertEqual((together.things, together.snapshots), (tree.things, tree.snapshots))
        return tree


class TestFoldersAndFiles(TreeCase):
    def test_new(self):
        tree = Tree()
        self.assertEqual((tree.things, tree.snapshots), ({}, {}))

    def test_start(self):
        self.assertEqual(self.tree.things, THINGS)
        self.assertEqual(self.tree.snapshots, {"old": OLD})

    def test_an_empty_folder_and_an_empty_file_come(self):
        tree = self.after(("folder", ("c",)), ("file", ("c", "x_1")), ("file", ("a", "b", "c")))
        self.assertEqual(tree.things, {**THINGS, ("c",): None, ("c", "x_1"): (), ("a", "b", "c"): ()})
        self.assertEqual(tree.snapshots, {"old": OLD})

    def test_a_path_of_six_names(self):
        path = ("a", "b", "c2345678901_", "d", "e", "f")
        rows = [("folder", path[:size]) for size in range(3, 6)]
        tree = self.after(*rows, ("file", path), ("put", path, 0, (1,)))
        self.assertEqual(tree.things[path], (1,))
        self.assertIsNone(tree.things[path[:5]])
        self.assertEqual(tree.problem(("file", path)), ("exists", path))

    def test_somewhat_beyond_the_limits(self):
        path = ("a", "b", "c", "d", "e", "f", "a_name_of_more_than_12")
        rows = [("folder", path[:size]) for size in range(3, 7)]
        tree = self.after(*rows, ("file", path), ("put", path, 0, (1,)), ("snap", "x" * 13))
        self.assertEqual(tree.things[path], (1,))
        self.assertEqual(tree.problem(("file", path + ("x",))), ("no folder", path))

    def test_what_is_made_is_a_tree(self):
        for tree in (self.tree.copy(), self.tree.made(("snap", "x")), self.tree.made_all([])):
            self.assertIsInstance(tree, Tree)


class TestBytes(TreeCase):
    def put(self, at, *data):
        return self.after(("put", ("a", "f"), at, data)).things[("a", "f")]

    def test_in_place_of_what_was_there(self):
        self.assertEqual(self.put(1, 20, 30), (1, 20, 30, 4, 5))
        self.assertEqual(self.put(0, 10), (10, 2, 3, 4, 5))
        self.assertEqual(self.put(4, 50), (1, 2, 3, 4, 50))
        self.assertEqual(self.put(0, 6, 7, 8, 9, 0), (6, 7, 8, 9, 0))

    def test_over_the_end(self):
        self.assertEqual(self.put(3, 40, 50, 60, 70), (1, 2, 3, 40, 50, 60, 70))
        self.assertEqual(self.put(0, 9, 9, 9, 9, 9, 9), (9,) * 6)

    def test_just_behind_the_end(self):
        self.assertEqual(self.put(5, 6, 7), (1, 2, 3, 4, 5, 6, 7))
        tree = self.after(("put", ("a", "b", "g"), 0, (0, 255)))
        self.assertEqual(tree.things[("a", "b", "g")], (0, 255))

    def test_a_put_of_no_bytes(self):
        for at in range(6):
            self.assertEqual(self.put(at), (1, 2, 3, 4, 5))

    def test_a_trim(self):
        for length in range(6):
            tree = self.after(("trim", ("a", "f"), length))
            self.assertEqual(tree.things, {**THINGS, ("a", "f"): (1, 2, 3, 4, 5)[:length]})

    def test_bytes_of_a_snapshot_stay(self):
        tree = self.after(("put", ("h",), 1, (0, 0, 0)), ("trim", ("a", "f"), 0))
        self.assertEqual(tree.snapshots, {"old": OLD})
        self.assertEqual(tree.things[("h",)], (6, 0, 0, 0))

    def test_bytes_are_tuples(self):
        for change in [("put", ("h",), 0, (1,)), ("put", ("h",), 3, ()), ("trim", ("h",), 1),
                       ("file", ("new",))]:
            self.assertIsInstance(self.after(change).things[change[1]], tuple)


class TestMovesAndDrops(TreeCase):
    def test_a_file_moves(self):
        tree = self.after(("move", ("a", "f"), ("ab", "f2")))
        right = {path: thing for path, thing in THINGS.items() if path != ("a", "f")}
        self.assertEqual(tree.things, {**right, ("ab", "f2"): (1, 2, 3, 4, 5)})
        self.assertEqual(tree.snapshots, {"old": OLD})

    def test_a_folder_moves_with_everything_in_it(self):
        tree = self.after(("move", ("a",), ("ab", "a")))
        right = {("ab",): None, ("h",): (6, 8, 9), ("ab", "a"): None, ("ab", "a", "b"): None,
                 ("ab", "a", "f"): (1, 2, 3, 4, 5), ("ab", "a", "b", "g"): ()}
        self.assertEqual(tree.things, right)

    def test_what_begins_with_the_same_letters_does_not_move(self):
        self.assertIn(("ab",), self.after(("move", ("a",), ("c",))).things)
        self.assertIn(("a",), self.after(("move", ("ab",), ("abc",))).things)

    def test_out_of_a_folder(self):
        tree = self.after(("move", ("a", "b"), ("b",)), ("move", ("b", "g"), ("a", "b")))
        self.assertEqual(tree.things[("a", "b")], ())
        self.assertIsNone(tree.things[("b",)])
        self.assertNotIn(("b", "g"), tree.things)

    def test_paths_of_more_than_six_names(self):
        deep = tuple("pqrstu")
        rows = [("folder", deep[:size]) for size in range(1, 7)]
        tree = self.after(*rows, ("move", ("a",), deep[:5] + ("a",)))
        self.assertEqual(tree.things[deep[:5] + ("a", "b", "g")], ())
        self.assertEqual(tree.things[deep[:5] + ("a", "f")], (1, 2, 3, 4, 5))
        self.assertNotIn(("a",), tree.things)

    def test_a_drop_of_a_folder_with_everything_in_it(self):
        tree = self.after(("drop", ("a",)))
        self.assertEqual(tree.things, {("ab",): None, ("h",): (6, 8, 9)})
        self.assertEqual(tree.snapshots, {"old": OLD})

    def test_a_drop_of_a_file(self):
        tree = self.after(("drop", ("a", "b", "g")), ("drop", ("h",)))
        self.assertEqual(sorted(tree.things), [("a",), ("a", "b"), ("a", "f"), ("ab",)])


class TestSnapshots(TreeCase):
    def test_a_snapshot_of_all(self):
        tree = self.after(("snap", "new"), ("drop", ("a",)))
        self.assertEqual(tree.snapshots, {"old": OLD, "new": THINGS})

    def test_a_snapshot_of_nothing(self):
        self.assertEqual(Tree().made(("snap", "x")).snapshots, {"x": {}})
        tree = Tree().made_all([("snap", "x"), ("file", ("f",)), ("back", "x")])
        self.assertEqual((tree.things, tree.snapshots), ({}, {"x": {}}))

    def test_a_snapshot_goes(self):
        tree = self.after(("snap", "new"), ("forget", "old"))
        self.assertEqual(tree.snapshots, {"new": THINGS})
        self.assertEqual(tree.things, THINGS)

    def test_all_come_back(self):
        tree = self.after(("drop", ("a",)), ("file", ("z",)), ("back", "old"))
        self.assertEqual(tree.things, OLD)
        self.assertEqual(tree.snapshots, {"old": OLD})

    def test_a_snapshot_stays_when_what_came_back_changes(self):
        tree = self.after(("back", "old"), ("put", ("h",), 0, (1,)), ("drop", ("a",)), ("snap", "x"))
        self.assertEqual(tree.snapshots["old"], OLD)
        self.assertEqual(tree.snapshots["x"], {("ab",): None, ("h",): (1, 8, 9)})
        self.assertEqual(tree.made(("back", "old")).things, OLD)

    def test_a_name_of_a_snapshot_may_be_that_of_a_file(self):
        self.assertEqual(sorted(self.after(("snap", "h"), ("snap", "a")).snapshots), ["a", "h", "old"])


class TestManyChanges(TreeCase):
    def test_no_changes(self):
        tree = self.tree.made_all([])
        self.assertEqual((tree.things, tree.snapshots), (THINGS, {"old": OLD}))
        self.assertIsNot(tree, self.tree)

    def test_the_first_problem_behind_those_before_it(self):
        rows = [("drop", ("a",)), ("folder", ("a",)), ("file", ("a", "f")),
                ("put", ("a", "f"), 1, (1,)), ("file", ("a", "f"))]
        with self.assertRaises(Refused) as caught:
            self.tree.made_all(rows)
        self.assertEqual(caught.exception.index, 3)
        self.assertEqual(caught.exception.problem, ("behind end", ("a", "f")))
        self.assertEqual((self.tree.things, self.tree.snapshots), (THINGS, {"old": OLD}))

    def test_the_first_of_several_problems_at_its_index(self):
        for many in range(4):
            rows = [("put", ("h",), 0, ())] * many + [("drop", ("x",)), ("drop", ())]
            with self.assertRaises(Refused) as caught:
                self.tree.made_all(rows)
            refused = caught.exception
            self.assertEqual((refused.index, refused.problem), (many, ("nothing", ("x",))))

    def test_the_changes_stay_as_they_are(self):
        rows = [("drop", ("a",)), ("snap", "x")]
        tree = self.tree.made_all(rows)
        self.assertEqual(rows, [("drop", ("a",)), ("snap", "x")])
        rows.clear()
        self.assertEqual(sorted(tree.snapshots), ["old", "x"])

    def test_any_changes_by_the_rule(self):
        problems = set()
        for seed in range(60):
            chance = Chance(seed)
            tree, rule = Tree(), RuleTree()
            for _ in range(60):
                change = chance.change(rule)
                told = tree.problem(change)
                self.assertEqual(told, rule.problem(change), (seed, change))
                problems.add((change[0], told and told[0]))
                if told is None:
                    tree = tree.made(change)
                    rule.make(change)
                self.assertEqual(tree.things, rule.things(), (seed, change))
                self.assertEqual(tree.snapshots, rule.snapshots(), (seed, change))
        # All problems of all changes came up: 3 and none of what comes, 4 of a put, and so on.
        self.assertEqual(len(problems), 2 * 4 + 2 * 5 + 6 + 3 + 3 * 2)


class TestNothingIsShared(TreeCase):
    def dicts(self, tree):
        return [tree.things, tree.snapshots] + list(tree.snapshots.values())

    def test_no_dict_is_shared(self):
        changes = [("folder", ("x",)), ("file", ("x",)), ("put", ("h",), 0, (1,)), ("trim", ("h",), 1),
                   ("move", ("h",), ("x",)), ("drop", ("h",)), ("snap", "x"), ("forget", "old"),
                   ("back", "old")]
        trees = [self.tree, self.tree.copy(), self.tree.made_all([])]
        trees += [self.tree.made(change) for change in changes]
        trees += [self.tree.made_all([change]) for change in changes]
        known = [held for tree in trees for held in self.dicts(tree)]
        self.assertEqual(len({id(held) for held in known}), len(known))

    def test_a_copy_stays_when_the_tree_changes_and_the_other_way(self):
        for one, other in [(0, 1), (1, 0)]:
            trees = [self.tree, self.tree.copy()]
            before = deepcopy((trees[other].things, trees[other].snapshots))
            trees[one].things[("q",)] = ()
            trees[one].snapshots["old"].clear()
            trees[one].snapshots["q"] = {}
            self.assertEqual((trees[other].things, trees[other].snapshots), before)
            self.setUp()

    def test_a_snapshot_is_not_what_is_there_now(self):
        for tree in (self.tree.made(("snap", "x")), self.tree.made(("back", "old"))):
            held = self.dicts(tree)
            self.assertEqual(len({id(one) for one in held}), len(held))
