"""Points 29 and 31, as far as they are those of Log: how it grows, and the state that it makes."""

import unittest
from copy import deepcopy

from rotward.codes import write_group, write_image
from rotward.errors import DamagedData
from rotward.log import Log, log_block, tail
from rotward.states import Plan, State
from tests.code_rules import IMAGE, plain_image, write
from tests.rules import sector
from tests.test_log_parts import block_of

F = ("f",)


def started(commits=0, area=0):
    """A Log of an empty state."""
    sectors = log_block(write_image(commits, State(24, 64)))
    return Log(commits, area, len(sectors), sectors)


def after(state, *changes):
    """The plan of changes."""
    return Plan(state, list(changes))


def named(many):
    """So many folders with names of 12 characters; each takes 15 bytes of an image."""
    return [("folder", (f"name_{number:07}",)) for number in range(many)]


def state_with(folders):
    state = State(24, 64)
    for change in folders:
        state.things[change[1]] = None
    return state


class LogCase(unittest.TestCase):
    def told(self, log):
        return (log.commits, log.area, log.image, log.sectors)

    def damaged(self, *arguments):
        log = Log(*arguments)
        with self.assertRaises(DamagedData):
            log.state(24, 64)


class TestAttributes(LogCase):
    def test_attributes_and_tail(self):
        sectors = [sector(1), sector(2), sector(3)]
        log = Log(300, 1, 2, sectors)
        self.assertEqual(self.told(log), (300, 1, 2, sectors))
        self.assertEqual(log.tail(), tail(300, 1, 2, 3))
        self.assertEqual(Log(0, 0, 1, sectors[:1]).tail(), tail(0, 0, 1, 1))

    def test_nothing_is_shared(self):
        sectors = [sector(1), sector(2)]
        log = Log(1, 0, 1, sectors)
        sectors[0][0] ^= 1
        sectors.pop()
        self.assertEqual(log.sectors, [sector(1), sector(2)])
        log.tail().clear()
        self.assertEqual(log.tail(), tail(1, 0, 1, 2))

    def test_a_grown_log_shares_nothing(self):
        for size in (11, 1):
            plan = after(State(24, 64), ("file", F))
            log = started()
            grown = log.grown(plan.after, plan.records, size)
            known = [id(part) for one in (log, grown) for part in [one.sectors] + one.sectors]
            self.assertEqual(len(set(known)), len(known))
            log.sectors[0][0] = 99
            self.assertEqual(grown.state(24, 64).things, {F: (0, ())})


class TestGrown(LogCase):
    def grow(self, log, state, records, size):
        """The grown Log; what is passed is checked to stay as it is."""
        before = deepcopy((self.told(log), state.things, state.snapshots, records))
        grown = log.grown(state, records, size)
        self.assertEqual((self.told(log), state.things, state.snapshots, records), before)
        return grown

    def test_a_group_behind_what_counts(self):
        state, log = State(24, 64), started(7, 1)
        right = list(log.sectors)
        for number in range(4):
            plan = after(state, ("file", (f"f{number}",)), ("snap", f"s{number}"))
            log, state = self.grow(log, plan.after, plan.records, 11), plan.after
            right += block_of(write_group(plan.records))
            self.assertEqual(self.told(log), (8 + number, 1, 1, right))
            self.assertEqual(log.tail(), tail(8 + number, 1, 1, len(right)))
            self.assertEqual(log.state(24, 64).data(), state.data())

    def test_a_group_that_just_fits_and_one_sector_too_few(self):
        for area in (0, 1):
            for folders in (1, 5, 9):
                plan = after(State(24, 64), *named(folders), *[("drop", row[1]) for row in named(folders)])
                size = 1 + len(block_of(write_group(plan.records)))
                self.assertGreater(size, 2)
                grown = self.grow(started(3, area), plan.after, plan.records, size)
                self.assertEqual((grown.area, grown.image, len(grown.sectors)), (area, 1, size))
                grown = self.grow(started(3, area), plan.after, plan.records, size - 1)
                image = block_of(write_image(4, plan.after))
                self.assertEqual(self.told(grown), (4, 1 - area, len(image), image))

    def test_the_first_image_counts_for_the_size(self):
        log = Log(0, 0, 3, log_block(write_image(0, state_with(named(5)))))
        plan = after(state_with(named(5)), ("drop", named(1)[0][1]))
        self.assertEqual(self.grow(log, plan.after, plan.records, 4).area, 0)
        grown = self.grow(log, plan.after, plan.records, 3)
        self.assertEqual((grown.area, grown.image, len(grown.sectors)), (1, 3, 3))

    def test_an_image_that_just_fits_and_one_sector_too_few(self):
        for folders in (3, 9, 20):
            plan = after(state_with(named(folders)[:-1]), named(folders)[-1])
            size = len(block_of(write_image(1, plan.after)))
            log = Log(0, 0, size, [[0] * 32] * size)
            grown = self.grow(log, plan.after, plan.records, size)
            self.assertEqual(self.told(grown), (1, 1, size, block_of(write_image(1, plan.after))))
            self.assertIsNone(self.grow(log, plan.after, plan.records, size - 1))

    def test_an_image_that_does_not_fit_though_the_group_would(self):
        plan = after(state_with(named(20)[:-1]), named(20)[-1])
        size = len(block_of(write_image(1, plan.after)))
        self.assertGreater(size, 3)
        self.assertIsNone(self.grow(started(), plan.after, plan.records, size - 1))
        self.assertEqual(self.grow(started(), plan.after, plan.records, size).area, 0)

    def test_the_image_has_the_number_of_commits_after_it(self):
        # With 127 commits it just fits, with 128 it needs a byte more.
        for commits, fits in [(125, True), (126, True), (127, False), (128, False)]:
            state = State(24, 64)
            state.things[("a" * 12,)] = (1, tuple(range(8)))
            least = len(write_image(127, state))
            self.assertLess(least, 60)
            state.things[F] = (0, (0,) * (60 - least - 6))
            self.assertEqual(len(write_image(127, state)), 60)
            grown = self.grow(started(commits), state, [("drop", F)], 2)
            self.assertEqual(grown is not None, fits)
            if fits:
                self.assertEqual((grown.area, grown.commits), (0, commits + 1))

    def test_from_one_area_to_the_other_and_back(self):
        state, log = State(24, 64), started()
        areas = []
        for number in range(12):
            plan = after(state, ("file", F) if number % 2 == 0 else ("drop", F))
            log, state = self.grow(log, plan.after, plan.records, 3), plan.after
            areas.append((log.area, len(log.sectors), log.commits))
            self.assertEqual(log.state(24, 64).data(), state.data())
        self.assertEqual(areas, [(number // 3 % 2, 1 + number % 3, number) for number in range(1, 13)])

    def test_no_records(self):
        state = State(24, 64)
        grown = self.grow(started(), state, [], 2)
        self.assertEqual(self.told(grown), (1, 0, 1, started().sectors + block_of([0])))


class TestState(LogCase):
    def setUp(self):
        """An image of two sectors, a group of one and a group of two."""
        self.states = [state_with(named(3))]
        self.blocks = [block_of(write_image(8, self.states[0]))]
        for changes in ([("file", F), ("snap", "s")], [("drop", F)] + [("move", row[1], ("m" + row[1][0][1:],))
                                                                     for row in named(2)]):
            plan = Plan(self.states[-1], changes)
            self.states.append(plan.after)
            self.blocks.append(block_of(write_group(plan.records)))
        self.assertEqual([len(block) for block in self.blocks], [2, 1, 3])

    def sectors(self, many=3):
        return [row for block in self.blocks[:many] for row in block]

    def test_images_and_groups(self):
        for groups in range(3):
            log = Log(8 + groups, 1, 2, self.sectors(1 + groups))
            before = deepcopy(self.told(log))
            state = log.state(24, 64)
            self.assertIsInstance(state, State)
            self.assertEqual(state.data(), self.states[groups].data())
            self.assertEqual((state.stripes, state.block), (24, 64))
            self.assertEqual(self.told(log), before)

    def test_stripes_and_blocks_of_other_sizes(self):
        state = Log(8, 0, 2, self.sectors(1)).state(12, 4)
        plan = Plan(state, [("file", F), ("put", F, 0, (1,) * 5)])
        self.assertEqual(plan.records[1], ("put", F, 5, ((0, 0), (1, 1))))

    def test_a_new_state_each_time(self):
        log = Log(10, 0, 2, self.sectors())
        log.state(24, 64).things.clear()
        log.state(24, 64).snapshots["s"].clear()
        self.assertEqual(log.state(24, 64).data(), self.states[2].data())

    def test_another_number_of_commits(self):
        for groups in range(3):
            for commits in (0, 7, 8, 9, 10, 11):
                if commits != 8 + groups:
                    self.damaged(commits, 0, 2, self.sectors(1 + groups))

    def test_another_number_of_sectors_of_the_image(self):
        for groups in range(3):
            for image in (0, 1, 3, 4, 5, 6, 7):
                self.damaged(8 + groups, 0, image, self.sectors(1 + groups))

    def test_a_missing_and_a_further_sector(self):
        rows = self.sectors()
        for commits in (8, 9, 10, 11):
            self.damaged(commits, 0, 2, rows[:-1])
            self.damaged(commits, 0, 2, rows + [[255] * 32])
            self.damaged(commits, 0, 2, rows + [[0] * 32])
        for at in range(len(rows)):
            for commits in (7, 8, 10) if at == 2 else (7, 8, 9, 10):
                # Without sector 2 there is one group less, as if it had never been.
                self.damaged(commits, 0, 2, rows[:at] + rows[at + 1:])
        self.damaged(8, 0, 2, self.sectors(1)[:1])
        self.damaged(8, 0, 1, self.sectors(1)[:1])

    def test_a_further_empty_group_is_a_commit(self):
        rows = self.sectors(1) + block_of([0])
        self.damaged(8, 0, 2, rows)
        self.assertEqual(Log(9, 0, 2, rows).state(24, 64).data(), self.states[0].data())

    def test_no_sectors(self):
        self.damaged(0, 0, 0, [])
        self.damaged(0, 0, 1, [])

    def test_further_bytes(self):
        image, group = write_image(8, self.states[0]), write_group([("file", F)])
        right = block_of(image) + block_of(group) * 1
        self.assertEqual(Log(9, 0, 2, right).state(24, 64).things[F], (0, ()))
        for more in ([0], [1], [255, 255]):
            self.damaged(9, 0, 2, block_of(image + more) + block_of(group))
            self.damaged(9, 0, 2, block_of(image) + block_of(group + more))
            self.damaged(8, 0, 2, block_of(image + more))
        self.damaged(9, 0, 2, block_of(image[:-1]) + block_of(group))
        self.damaged(9, 0, 2, block_of(image) + block_of(group[:-1]))

    def test_damaged_data(self):
        image = write_image(8, self.states[0])
        self.damaged(8, 0, 1, block_of([]))
        self.damaged(8, 0, 1, block_of([8, 0]))
        self.damaged(8, 0, 1, block_of([8, 1, 0, 2, 0]))
        self.damaged(9, 0, 2, block_of(image) + block_of([]))
        self.damaged(9, 0, 2, block_of(image) + block_of([1, 9, 0]))
        self.damaged(9, 0, 2, block_of(image) + block_of([1, 6, 1, 65]))
        self.damaged(136, 0, 1, block_of([136, 128, 0, 0, 0]))

    def test_a_damaged_group_behind_one_that_cannot_be_made(self):
        image = block_of(write_image(8, self.states[0]))
        self.damaged(10, 0, 2, image + block_of(write_group([("drop", F), ("back", "x")])) + block_of([9]))
        self.damaged(10, 0, 2, image + block_of(write_group([("forget", "x")])) + block_of([0, 0]))

    def test_what_stands_behind_the_bytes_is_not_looked_at(self):
        rows = deepcopy(self.sectors())
        rows[-1][-1] = 77
        rows[1][-1] = 78
        rows[2][-1] = 79
        self.assertEqual(Log(10, 0, 2, rows).state(24, 64).data(), self.states[2].data())

    def test_the_number_of_commits_of_an_image_of_ten_bytes(self):
        image = block_of(write(IMAGE, plain_image(2 ** 70 - 1, {}, {})))
        self.assertEqual(Log(2 ** 70 - 1, 0, 1, image).state(24, 64).data(), ((), ()))
        self.damaged(2 ** 70 - 2, 0, 1, image)
