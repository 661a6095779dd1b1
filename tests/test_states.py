"""Points 19 and 20: states, and what the records make of them."""

import unittest
from copy import deepcopy

from rotward.states import State

ROWS = [("folder", ("a",)), ("file", ("a", "f")), ("put", ("a", "f"), 9, ((0, 0), (1, 1), (2, 2))),
        ("file", ("h",)), ("put", ("h",), 3, ((0, 5),)), ("snap", "old"),
        ("put", ("h",), 3, ((0, 3),))]
THINGS = {("a",): None, ("a", "f"): (9, (0, 1, 2)), ("h",): (3, (3,))}
OLD = {**THINGS, ("h",): (3, (5,))}


def made(state, records):
    """The state after all records."""
    for record in records:
        state = state.after(record)
    return state


class StateCase(unittest.TestCase):
    def setUp(self):
        self.state = made(State(12, 4), ROWS)

    def after(self, *records):
        """The state after records; the state itself is checked to stay as it is."""
        before = deepcopy((self.state.things, self.state.snapshots))
        state = made(self.state, records)
        self.assertEqual((self.state.things, self.state.snapshots), before)
        self.assertIsInstance(state, State)
        return state


class TestRecords(StateCase):
    def test_a_new_state_is_empty(self):
        state = State(40, 96)
        self.assertEqual((state.things, state.snapshots), ({}, {}))
        self.assertEqual(state.used(), [])
        self.assertEqual(state.data(), ((), ()))

    def test_start(self):
        self.assertEqual((self.state.things, self.state.snapshots), (THINGS, {"old": OLD}))

    def test_what_comes(self):
        state = self.after(("folder", ("c",)), ("file", ("c", "d")))
        self.assertEqual(state.things, {**THINGS, ("c",): None, ("c", "d"): (0, ())})
        self.assertEqual(state.snapshots, {"old": OLD})

    def test_a_put_in_the_place_of_a_stripe(self):
        for block in range(3):
            stripes = [0, 1, 2]
            stripes[block] = 7
            state = self.after(("put", ("a", "f"), 9, ((block, 7),)))
            self.assertEqual(state.things, {**THINGS, ("a", "f"): (9, tuple(stripes))})

    def test_a_put_at_the_end(self):
        state = self.after(("put", ("a", "f"), 20, ((2, 4), (3, 6), (4, 8))))
        self.assertEqual(state.things[("a", "f")], (20, (0, 1, 4, 6, 8)))
        state = self.after(("put", ("a", "f"), 13, ((3, 11),)))
        self.assertEqual(state.things[("a", "f")], (13, (0, 1, 2, 11)))

    def test_a_put_of_no_bytes(self):
        self.assertEqual(self.after(("put", ("h",), 3, ())).things, THINGS)

    def test_a_trim(self):
        for length, blocks in [(0, 0), (1, 1), (4, 1), (5, 2), (8, 2), (9, 3)]:
            state = self.after(("trim", ("a", "f"), length, blocks))
            self.assertEqual(state.things, {**THINGS, ("a", "f"): (length, (0, 1, 2)[:blocks])})

    def test_moves_and_drops(self):
        state = self.after(("move", ("a",), ("b",)), ("drop", ("h",)))
        self.assertEqual(state.things, {("b",): None, ("b", "f"): (9, (0, 1, 2))})
        state = self.after(("move", ("h",), ("a", "g")), ("move", ("a", "f"), ("f",)))
        self.assertEqual(state.things, {("a",): None, ("a", "g"): (3, (3,)), ("f",): (9, (0, 1, 2))})
        self.assertEqual(self.after(("drop", ("a",))).things, {("h",): (3, (3,))})
        self.assertEqual(state.snapshots, {"old": OLD})

    def test_snapshots(self):
        state = self.after(("snap", "new"), ("drop", ("a",)))
        self.assertEqual(state.snapshots, {"old": OLD, "new": THINGS})
        self.assertEqual(self.after(("back", "old")).things, OLD)
        self.assertEqual(self.after(("back", "old")).snapshots, {"old": OLD})
        self.assertEqual(self.after(("forget", "old")).snapshots, {})
        state = self.after(("back", "old"), ("put", ("h",), 4, ((0, 9),)), ("drop", ("a",)))
        self.assertEqual(state.snapshots, {"old": OLD})

    def test_files_are_tuples(self):
        state = self.after(("back", "old"), ("put", ("h",), 7, ((0, 7), (1, 8))),
                           ("trim", ("a", "f"), 4, 1), ("file", ("z",)))
        for path in (("h",), ("a", "f"), ("z",)):
            self.assertIsInstance(state.things[path], tuple)
            self.assertIsInstance(state.things[path][1], tuple)


class TestUsed(StateCase):
    def test_now_and_in_snapshots_each_once_and_sorted(self):
        self.assertEqual(self.state.used(), [0, 1, 2, 3, 5])

    def test_as_long_as_a_file_has_them(self):
        self.assertEqual(self.after(("drop", ("h",))).used(), [0, 1, 2, 5])
        self.assertEqual(self.after(("forget", "old")).used(), [0, 1, 2, 3])
        self.assertEqual(self.after(("forget", "old"), ("drop", ("a",))).used(), [3])
        self.assertEqual(self.after(("trim", ("a", "f"), 1, 1)).used(), [0, 1, 2, 3, 5])
        self.assertEqual(self.after(("forget", "old"), ("trim", ("a", "f"), 1, 1)).used(), [0, 3])
        self.assertEqual(self.after(("put", ("h",), 3, ((0, 11),))).used(), [0, 1, 2, 5, 11])
        self.assertEqual(self.after(("back", "old")).used(), [0, 1, 2, 5])

    def test_is_a_new_list(self):
        self.state.used().clear()
        self.assertEqual(self.state.used(), [0, 1, 2, 3, 5])


class TestData(StateCase):
    def test_sorted_items_and_snapshots_in_the_order_of_names(self):
        state = self.after(("snap", "b"), ("snap", "a_"), ("snap", "a"), ("file", ("z",)),
                           ("drop", ("h",)), ("folder", ("a", "a")), ("file", ("ab",)))
        now = ((("a",), None), (("a", "a"), None), (("a", "f"), (9, (0, 1, 2))),
               (("ab",), (0, ())), (("z",), (0, ())))
        snap = ((("a",), None), (("a", "f"), (9, (0, 1, 2))), (("h",), (3, (3,))))
        old = snap[:2] + ((("h",), (3, (5,))),)
        names = (("a", snap), ("a_", snap), ("b", snap), ("old", old))
        self.assertEqual(state.data(), (now, names))

    def test_paths_are_ordered_as_tuples(self):
        state = made(State(9, 4), [("folder", (name,)) for name in ("b", "a_b", "a1", "ab", "a")]
                     + [("file", ("a", "z")), ("file", ("a1", "_"))])
        paths = [item[0] for item in state.data()[0]]
        self.assertEqual(paths, [("a",), ("a", "z"), ("a1",), ("a1", "_"), ("a_b",), ("ab",), ("b",)])

    def test_consists_of_tuples(self):
        now, snapshots = self.state.data()
        for part in (self.state.data(), now, snapshots, now[0], now[1][1], snapshots[0],
                     snapshots[0][1], snapshots[0][1][0]):
            self.assertIsInstance(part, tuple)

    def test_does_not_tell_in_which_order_things_came(self):
        rows = [("snap", "x"), ("snap", "c"), ("folder", ("k",)), ("folder", ("i",))]
        self.assertEqual(made(State(9, 4), rows[2:] + rows[:2][::-1]).data()[0],
                         made(State(9, 4), rows[2:][::-1] + rows[:2]).data()[0])
        self.assertEqual(made(State(9, 4), rows[:2]).data(), made(State(9, 4), rows[1::-1]).data())


class TestNothingIsShared(StateCase):
    def dicts(self, state):
        return [state.things, state.snapshots] + list(state.snapshots.values())

    def test_no_dict_is_shared(self):
        records = [("folder", ("x",)), ("file", ("x",)), ("put", ("h",), 3, ((0, 8),)),
                   ("trim", ("h",), 1, 1), ("move", ("h",), ("x",)), ("drop", ("h",)), ("snap", "x"),
                   ("forget", "old"), ("back", "old"), ("put", ("h",), 3, ())]
        states = [self.state, self.state.copy()] + [self.state.after(record) for record in records]
        known = [held for state in states for held in self.dicts(state)]
        self.assertEqual(len({id(held) for held in known}), len(known))

    def test_a_copy_is_the_same(self):
        copy = self.state.copy()
        self.assertIsInstance(copy, State)
        self.assertEqual(copy.data(), self.state.data())
        self.assertEqual((copy.things, copy.snapshots), (THINGS, {"old": OLD}))

    def test_a_copy_stays_when_the_state_changes_and_the_other_way(self):
        for one, other in [(0, 1), (1, 0)]:
            states = [self.state, self.state.copy()]
            states[one].things[("q",)] = None
            states[one].snapshots["old"].clear()
            states[one].snapshots["q"] = {}
            self.assertEqual((states[other].things, states[other].snapshots), (THINGS, {"old": OLD}))
            self.setUp()
