"""Points 20 to 24: plans, by hand. A block has 4 bytes here."""

import unittest
from copy import deepcopy

from rotward.errors import Refused
from rotward.states import Plan, State

F, G = ("f",), ("g",)


def state_of(many, lengths, snapshots=()):
    """A state of so many stripes with files of these lengths, which have the first stripes."""
    state = State(many, 4)
    stripe = 0
    for path, length in lengths:
        blocks = (length + 3) // 4
        state.things[path] = (length, tuple(range(stripe, stripe + blocks)))
        stripe += blocks
    for name in snapshots:
        state.snapshots[name] = dict(state.things)
    return state


def old(stripe):
    """The block of a stripe that lies on the disks; no byte of it is 0."""
    return [stripe * 10 + 1, stripe * 10 + 2, stripe * 10 + 3, stripe * 10 + 4]


class PlanCase(unittest.TestCase):
    def plan(self, state, *changes):
        """The plan of changes; what is passed is checked to stay as it is."""
        before = deepcopy((state.things, state.snapshots))
        rows = list(changes)
        plan = Plan(state, rows)
        self.assertEqual((state.things, state.snapshots), before)
        self.assertEqual(rows, list(changes))
        after = state
        for record in plan.records:
            after = after.after(record)
        self.assertEqual(plan.after.data(), after.data())
        return plan

    def writes(self, plan):
        """What is written, with the blocks that lie on the disks."""
        return plan.writes([old(stripe) for _, stripe in plan.reads])

    def refused(self, state, *changes):
        before = deepcopy((state.things, state.snapshots))
        with self.assertRaises(Refused) as caught:
            Plan(state, list(changes))
        self.assertEqual((state.things, state.snapshots), before)
        return caught.exception.index, caught.exception.problem


class TestRecords(PlanCase):
    def test_no_changes(self):
        state = state_of(9, [(F, 5)], ["s"])
        plan = self.plan(state)
        self.assertEqual((plan.records, plan.reads, plan.writes([])), ([], [], []))
        self.assertEqual(plan.after.data(), state.data())
        self.assertIsInstance(plan.after, State)

    def test_all_but_put_and_trim_are_their_own_records(self):
        rows = [("folder", ("d",)), ("file", ("d", "e")), ("snap", "s"), ("move", F, ("d", "f")),
                ("drop", ("d",)), ("back", "s"), ("forget", "s")]
        plan = self.plan(state_of(9, [(F, 5)]), *rows)
        self.assertEqual((plan.records, plan.reads, self.writes(plan)), (rows, [], []))

    def test_a_trim(self):
        for length, blocks in [(0, 0), (1, 1), (3, 1), (4, 1), (5, 2), (8, 2), (9, 3)]:
            plan = self.plan(state_of(9, [(F, 9)]), ("trim", F, length))
            self.assertEqual(plan.records, [("trim", F, length, blocks)])
            self.assertEqual((plan.reads, self.writes(plan)), ([], []))
            self.assertEqual(plan.after.things, {F: (length, (0, 1, 2)[:blocks])})

    def test_puts_and_their_lengths(self):
        state = state_of(9, [(F, 6)])
        for at, many, length, touched in [
                (0, 0, 6, ()), (6, 0, 6, ()), (0, 1, 6, ((0, 2),)), (3, 1, 6, ((0, 2),)),
                (3, 2, 6, ((0, 2), (1, 3))), (4, 2, 6, ((1, 2),)), (4, 3, 7, ((1, 2),)),
                (6, 2, 8, ((1, 2),)), (6, 3, 9, ((1, 2), (2, 3))),
                (0, 17, 17, ((0, 2), (1, 3), (2, 4), (3, 5), (4, 6)))]:
            plan = self.plan(state, ("put", F, at, tuple(range(many))))
            self.assertEqual(plan.records, [("put", F, length, touched)])
            self.assertEqual(plan.after.things[F][0], length)

    def test_blocks_of_32_times_k_bytes(self):
        state = State(20, 96)
        plan = self.plan(state, ("file", F), ("put", F, 0, tuple(range(96)) + (1,)), ("trim", F, 96))
        self.assertEqual(plan.records, [("file", F), ("put", F, 97, ((0, 0), (1, 1))),
                                        ("trim", F, 96, 1)])
        self.assertEqual(plan.writes([]), [(0, list(range(96)))])

    def test_records_consist_of_tuples(self):
        plan = self.plan(state_of(9, [(F, 6)]), ("put", F, 0, (1,) * 6), ("trim", F, 1))
        for part in (plan.records[0], plan.records[1], plan.records[0][3], plan.records[0][3][0]):
            self.assertIsInstance(part, tuple)
        self.assertIsInstance(plan.records, list)
        self.assertIsInstance(plan.reads, list)


class TestStripes(PlanCase):
    def test_the_first_free_ones_by_number(self):
        state = State(12, 4)
        state.things[F] = (8, (1, 4))
        state.snapshots["s"] = {G: (4, (2,)), ("d",): None}
        plan = self.plan(state, ("put", F, 0, (9,) * 20))
        self.assertEqual(plan.records[0][3], ((0, 0), (1, 3), (2, 5), (3, 6), (4, 7)))
        self.assertEqual(plan.after.things[F], (20, (0, 3, 5, 6, 7)))

    def test_what_a_change_before_took_is_not_taken_again(self):
        put = ("put", F, 0, (1, 2, 3, 4))
        plan = self.plan(state_of(9, [(F, 4)]), put, put, ("trim", F, 0), put, ("drop", F),
                         ("file", F), put)
        self.assertEqual([record[3] for record in plan.records if record[0] == "put"],
                         [((0, 1),), ((0, 2),), ((0, 3),), ((0, 4),)])
        self.assertEqual(self.writes(plan), [(4, [1, 2, 3, 4])])

    def test_what_the_state_before_used_is_not_taken_when_it_is_free(self):
        state = state_of(4, [(F, 8)], ["s"])
        plan = self.plan(state, ("drop", F), ("forget", "s"), ("file", F), ("put", F, 0, (5,)))
        self.assertEqual(plan.after.things[F], (1, (2,)))
        self.assertEqual(plan.after.used(), [2])

    def test_no_used_stripe_is_written(self):
        state = state_of(9, [(F, 8), (G, 3)], ["s"])
        plan = self.plan(state, ("put", F, 2, (1, 1, 1)), ("put", G, 0, (2,)), ("trim", F, 3))
        self.assertEqual([stripe for stripe, _ in self.writes(plan)], [3, 5])

    def test_just_enough_and_one_too_few(self):
        for blocks in range(1, 5):
            state = state_of(2 + blocks, [(F, 5)])
            put = ("put", F, 5, (1,) * (4 * blocks - 1))
            self.assertEqual(len(self.plan(state, put).records[0][3]), blocks)
            self.assertEqual(self.refused(state, ("put", F, 5, (1,) * (4 * blocks))), (0, ("no room",)))

    def test_no_room_behind_changes_that_took_some(self):
        state = state_of(4, [(F, 4)])
        put = ("put", F, 0, (1,))
        self.plan(state, put, put, put)
        self.assertEqual(self.refused(state, put, put, ("snap", "s"), put, put), (4, ("no room",)))
        self.assertEqual(self.refused(state, put, put, ("put", F, 0, (1,) * 5)), (2, ("no room",)))

    def test_no_room_behind_a_drop(self):
        state = state_of(2, [(F, 8)])
        self.assertEqual(self.refused(state, ("drop", F), ("file", F), ("put", F, 0, (1,))),
                         (2, ("no room",)))
        self.plan(state, ("put", F, 3, ()), ("drop", F), ("file", F), ("put", F, 0, ()))

    def test_no_room_comes_after_the_other_problems(self):
        state = state_of(1, [(F, 4)])
        state.things[("d",)] = None
        many = (1,) * 50
        for path, at, problem in [((), 0, ("root",)), (G, 0, ("nothing", G)), (F, 5, ("behind end", F)),
                                  (("d",), 0, ("no file", ("d",))), (F, 4, ("no room",))]:
            self.assertEqual(self.refused(state, ("put", path, at, many)), (0, problem))

    def test_no_room_of_a_change_before_another_problem(self):
        state = state_of(1, [(F, 4)])
        rows = [("snap", "s"), ("put", F, 0, (1,)), ("drop", ())]
        self.assertEqual(self.refused(state, *rows), (1, ("no room",)))
        self.assertEqual(self.refused(state, rows[0], rows[2], rows[1]), (1, ("root",)))


class TestReads(PlanCase):
    def test_a_block_is_read_if_a_byte_stays(self):
        state = state_of(9, [(F, 6)])
        for at, many, reads in [(0, 0, []), (0, 4, []), (0, 3, [0]), (1, 3, [0]), (1, 2, [0]),
                                (0, 5, [1]), (0, 6, []), (0, 9, []), (4, 2, []), (4, 1, [1]),
                                (5, 1, [1]), (5, 9, [1]), (6, 2, [1]), (3, 2, [0, 1]), (3, 3, [0]),
                                (4, 9, []), (6, 0, [])]:
            plan = self.plan(state, ("put", F, at, (99,) * many))
            self.assertEqual(plan.reads, [(0, stripe) for stripe in reads], (at, many))

    def test_a_put_just_behind_whole_blocks(self):
        plan = self.plan(state_of(9, [(F, 8)]), ("put", F, 8, (1, 2)))
        self.assertEqual(plan.reads, [])
        self.assertEqual(self.writes(plan), [(2, [1, 2, 0, 0])])

    def test_only_the_bytes_of_the_file_stay(self):
        state = state_of(9, [(F, 8)])
        plan = self.plan(state, ("trim", F, 2), ("put", F, 0, (7, 8)))
        self.assertEqual((plan.reads, self.writes(plan)), ([], [(2, [7, 8, 0, 0])]))
        plan = self.plan(state, ("trim", F, 2), ("put", F, 1, (7,)))
        self.assertEqual((plan.reads, self.writes(plan)), ([(1, 0)], [(2, [1, 7, 0, 0])]))
        plan = self.plan(state, ("trim", F, 4), ("put", F, 4, (7,)))
        self.assertEqual((plan.reads, self.writes(plan)), ([], [(2, [7, 0, 0, 0])]))

    def test_a_middle_block_is_not_read(self):
        plan = self.plan(state_of(9, [(F, 12)]), ("put", F, 3, (9, 9, 9, 9, 9, 9)))
        self.assertEqual(plan.reads, [(0, 0), (0, 2)])
        self.assertEqual(self.writes(plan), [(3, [1, 2, 3, 9]), (4, [9] * 4), (5, [9, 22, 23, 24])])

    def test_indices_of_the_changes(self):
        plan = self.plan(state_of(9, [(F, 4), (G, 6)]), ("snap", "s"), ("put", G, 5, (1,)),
                         ("folder", ("d",)), ("put", F, 1, (2,)))
        self.assertEqual(plan.reads, [(1, 2), (3, 0)])
        self.assertEqual(self.writes(plan), [(3, [21, 1, 0, 0]), (4, [1, 2, 3, 4])])

    def test_each_once_for_each_put_that_needs_it(self):
        state = state_of(9, [(F, 4)], ["s"])
        put = ("put", F, 1, (9,))
        plan = self.plan(state, put, ("back", "s"), put, ("back", "s"), put)
        self.assertEqual(plan.reads, [(0, 0), (2, 0), (4, 0)])
        self.assertEqual(self.writes(plan), [(3, [1, 9, 3, 4])])

    def test_what_is_not_used_in_the_end_is_read(self):
        plan = self.plan(state_of(9, [(F, 4)]), ("put", F, 1, (9,)), ("drop", F))
        self.assertEqual(plan.reads, [(0, 0)])
        self.assertEqual(self.writes(plan), [])


class TestBlocks(PlanCase):
    def test_old_bytes_put_bytes_and_zeros(self):
        state = state_of(9, [(F, 7)])
        for at, data, blocks in [
                (0, (9,), [[9, 2, 3, 4]]), (1, (9, 8), [[1, 9, 8, 4]]), (3, (9,), [[1, 2, 3, 9]]),
                (4, (9,), [[9, 12, 13, 0]]), (5, (9,), [[11, 9, 13, 0]]), (6, (9,), [[11, 12, 9, 0]]),
                (6, (9, 8), [[11, 12, 9, 8]]), (7, (9,), [[11, 12, 13, 9]]),
                (7, (9, 8), [[11, 12, 13, 9], [8, 0, 0, 0]]), (3, (9, 8), [[1, 2, 3, 9], [8, 12, 13, 0]]),
                (0, (0,) * 9, [[0] * 4, [0] * 4, [0] * 4])]:
            plan = self.plan(state, ("put", F, at, data))
            self.assertEqual(self.writes(plan), list(zip(range(2, 5), blocks)), (at, data))

    def test_a_block_that_a_change_before_wrote(self):
        state = state_of(9, [(F, 6)])
        plan = self.plan(state, ("put", F, 5, (9, 9)), ("put", F, 4, (8,)), ("put", F, 7, (7, 6)))
        self.assertEqual(plan.reads, [(0, 1)])
        self.assertEqual(self.writes(plan), [(4, [8, 9, 9, 7]), (5, [6, 0, 0, 0])])

    def test_a_block_of_a_file_that_came_in_the_same_row(self):
        plan = self.plan(State(9, 4), ("file", F), ("put", F, 0, (1, 2, 3, 4, 5)), ("put", F, 3, (9, 9)),
                         ("put", F, 1, (8,)))
        self.assertEqual(plan.reads, [])
        self.assertEqual(self.writes(plan), [(3, [9, 0, 0, 0]), (4, [1, 8, 3, 9])])

    def test_a_block_that_a_change_before_wrote_and_moved(self):
        state = state_of(9, [(F, 6)])
        state.things[("d",)] = None
        plan = self.plan(state, ("put", F, 1, (9,)), ("move", F, ("d", "f")), ("move", ("d",), G),
                         ("put", ("g", "f"), 2, (8,)), ("put", ("g", "f"), 5, (7,)))
        self.assertEqual(plan.reads, [(0, 0), (4, 1)])
        self.assertEqual(self.writes(plan), [(3, [1, 9, 8, 4]), (4, [11, 7, 0, 0])])

    def test_a_block_that_a_change_before_moved_only(self):
        plan = self.plan(state_of(9, [(F, 4), (G, 4)]), ("move", F, ("h",)), ("move", G, F),
                         ("put", F, 0, (9,)))
        self.assertEqual(plan.reads, [(2, 1)])
        self.assertEqual(self.writes(plan), [(2, [9, 12, 13, 14])])

    def test_a_block_of_a_snapshot(self):
        state = state_of(9, [(F, 6)], ["s"])
        plan = self.plan(state, ("put", F, 0, (9,)), ("back", "s"), ("put", F, 1, (8,)))
        self.assertEqual(plan.reads, [(0, 0), (2, 0)])
        self.assertEqual(self.writes(plan), [(3, [1, 8, 3, 4])])
        self.assertEqual(plan.after.things, {F: (6, (3, 1))})

    def test_a_block_of_a_snapshot_of_the_same_row(self):
        state = state_of(9, [(F, 6)])
        plan = self.plan(state, ("put", F, 0, (9,)), ("snap", "t"), ("put", F, 1, (8,)), ("drop", F),
                         ("back", "t"), ("put", F, 3, (7, 7)))
        self.assertEqual(plan.reads, [(0, 0), (5, 1)])
        self.assertEqual(self.writes(plan), [(2, [9, 2, 3, 4]), (4, [9, 2, 3, 7]), (5, [7, 12, 0, 0])])
        self.assertEqual(plan.after.snapshots, {"t": {F: (6, (2, 1))}})

    def test_a_snapshot_of_the_same_row_that_went(self):
        state = state_of(9, [(F, 6)])
        plan = self.plan(state, ("put", F, 0, (9,)), ("snap", "t"), ("put", F, 1, (8,)), ("forget", "t"))
        self.assertEqual(self.writes(plan), [(3, [9, 8, 3, 4])])

    def test_a_block_that_a_change_before_wrote_and_trimmed(self):
        state = state_of(9, [(F, 4)])
        plan = self.plan(state, ("put", F, 1, (9, 9, 9)), ("trim", F, 2), ("put", F, 2, (8,)))
        self.assertEqual(self.writes(plan), [(2, [1, 9, 8, 0])])
        plan = self.plan(state, ("put", F, 1, (9, 9, 9)), ("trim", F, 0), ("put", F, 0, (8,)))
        self.assertEqual((plan.reads, self.writes(plan)), ([(0, 0)], [(2, [8, 0, 0, 0])]))

    def test_a_block_that_a_change_before_trimmed_only(self):
        plan = self.plan(state_of(9, [(F, 7)]), ("trim", F, 5), ("put", F, 5, (9,)))
        self.assertEqual(plan.reads, [(1, 1)])
        self.assertEqual(self.writes(plan), [(2, [11, 9, 0, 0])])

    def test_written_in_ascending_order(self):
        state = State(12, 4)
        state.things[F] = (4, (3,))
        put = ("put", F, 0, (1, 2, 3, 4))
        plan = self.plan(state, ("file", G), ("put", G, 0, (5,) * 8), put, ("put", G, 0, (6,)))
        self.assertEqual(self.writes(plan), [(1, [5] * 4), (2, [1, 2, 3, 4]), (4, [6, 5, 5, 5])])


class TestNothingIsShared(PlanCase):
    def setUp(self):
        self.state = state_of(9, [(F, 6)], ["s"])
        self.rows = [("put", F, 1, (9,)), ("snap", "t"), ("put", F, 3, (8, 8))]
        self.plan_made = Plan(self.state, self.rows)
        self.right = [(2, [1, 9, 3, 4]), (3, [1, 9, 3, 8]), (4, [8, 12, 0, 0])]

    def test_no_dict_is_shared(self):
        known = []
        for state in (self.state, self.plan_made.after, Plan(self.state, []).after):
            known += [state.things, state.snapshots] + list(state.snapshots.values())
        self.assertEqual(len({id(held) for held in known}), len(known))

    def test_what_was_passed_may_change_later(self):
        self.state.things.clear()
        self.state.snapshots.clear()
        self.rows.clear()
        self.assertEqual(self.plan_made.reads, [(0, 0), (2, 1)])
        self.assertEqual(len(self.plan_made.records), 3)
        self.assertEqual(self.plan_made.after.things, {F: (6, (3, 4))})
        self.assertEqual(self.plan_made.writes([old(0), old(1)]), self.right)

    def test_what_was_found_stays_as_it_is(self):
        found = [old(0), old(1)]
        before = deepcopy(found)
        for _, block in self.plan_made.writes(found):
            self.assertIsInstance(block, list)
            block[0] = 77
        self.assertEqual(found, before)

    def test_what_was_told_may_change_later(self):
        told = self.plan_made.writes([old(0), old(1)])
        told[0][1].clear()
        told.pop()
        self.plan_made.reads.clear()
        self.plan_made.records.clear()
        self.plan_made.after.things.clear()
        self.assertEqual(self.plan_made.writes([old(0), old(1)]), self.right)
        self.assertEqual(self.plan_made.writes([old(5), old(1)])[0], (2, [51, 9, 53, 54]))
