"""States: files as stripes, what the records make of them, and the plans of changes."""

from rotward.changes import copy_snapshots, copy_things, problem_of, remake
from rotward.errors import Refused


def lengths_of(things):
    """None for the path of each folder, and the length for that of each file."""
    return {path: None if thing is None else thing[0] for path, thing in things.items()}


def sorted_things(things):
    """The tuple of the paths and what is there, in the order of paths."""
    return tuple(sorted(things.items()))


def put_stripes(old, touched):
    """The stripes of a file after a put."""
    stripes = list(old)
    for block, stripe in touched:
        # Just behind the end this slice is empty, and the stripe is added.
        stripes[block:block + 1] = [stripe]
    return tuple(stripes)


class State:
    """Files, with lengths and stripes, and folders, and snapshots of these."""

    def __init__(self, stripes, block):
        self.stripes = stripes
        self.block = block
        self.things = {}
        self.snapshots = {}

    def copy(self):
        """The same State once more."""
        state = State(self.stripes, self.block)
        state.things = copy_things(self.things)
        state.snapshots = copy_snapshots(self.snapshots)
        return state

    def used(self):
        """The sorted list of the stripes that belong to a file, now or in a snapshot."""
        found = set()
        for things in [self.things] + list(self.snapshots.values()):
            for thing in things.values():
                if thing is not None:
                    for stripe in thing[1]:
                        found.add(stripe)
        return sorted(found)

    def data(self):
        """All that is there now and in the snapshots, as tuples in their order."""
        snapshots = [(name, sorted_things(self.snapshots[name])) for name in sorted(self.snapshots)]
        return (sorted_things(self.things), tuple(snapshots))

    def problem(self, change):
        """The problem of a change, without those that come of disks, or None."""
        return problem_of(lengths_of(self.things), self.snapshots, change)

    def after(self, record):
        """The State after a record."""
        state = self.copy()
        kind, path = record[0], record[1]
        if kind == "put":
            state.things[path] = (record[2], put_stripes(self.things[path][1], record[3]))
        elif kind == "trim":
            state.things[path] = (record[2], self.things[path][1][:record[3]])
        else:
            remake(state.things, state.snapshots, record, (0, ()))
        return state


def parts_of(at, data, block):
    """For each block that a put touches its number, the index in it, and the bytes that go there."""
    parts = []
    done = 0
    while done < len(data):
        number, start = divmod(at + done, block)
        some = data[done:done + block - start]
        parts.append((number, start, some))
        done += len(some)
    return parts


class Fill:
    """What a put makes of one block in a new stripe."""

    def __init__(self, stripe, start, some, length):
        self.stripe = stripe
        self.start = start
        self.some = list(some)
        # How many bytes of the block the file had before; what a trim left behind is not among them.
        self.length = length
        # The stripe that the block had, or None if no byte of it stays.
        self.source = None

    def stays(self):
        """Tells whether a byte stays that the file had before."""
        # A put does not begin behind the end, so bytes in front of it were there.
        return self.start > 0 or len(self.some) < self.length

    def content(self, old, block):
        """The bytes of the new stripe; old is the block as it was."""
        end = self.start + len(self.some)
        whole = old[:self.start] + self.some + old[end:self.length]
        return whole + [0] * (block - len(whole))


class Plan:
    """What changes come to on a state: records, and stripes to read and to write."""

    def __init__(self, state, changes):
        self.records = []
        self.reads = []
        self.after = state.copy()
        self._block = state.block
        self._fills = []
        used = state.used()
        self._free = [stripe for stripe in range(state.stripes) if stripe not in used]
        for index, change in enumerate(changes):
            self._make(index, change)
        self._used = self.after.used()

    def writes(self, found):
        """The stripes that are written in the end, with their blocks; found is what was read."""
        blocks = {}
        asked = 0
        for fill in self._fills:
            old = []
            if fill.source in blocks:
                old = blocks[fill.source]
            elif fill.source is not None:
                old = list(found[asked])
                asked += 1
            blocks[fill.stripe] = fill.content(old, self._block)
        return [(stripe, blocks[stripe]) for stripe in sorted(blocks) if stripe in self._used]

    def _make(self, index, change):
        """Makes a change, behind those before it; raises Refused if it has a problem."""
        told = self.after.problem(change)
        if told is not None:
            raise Refused(index, told)
        record = change
        if change[0] == "put":
            record = self._put(index, change)
        elif change[0] == "trim":
            blocks = (change[2] + self._block - 1) // self._block
            record = ("trim", change[1], change[2], blocks)
        self.records.append(record)
        self.after = self.after.after(record)

    def _put(self, index, change):
        """The record of a put; its stripes are taken, and what they are made of is kept."""
        _, path, at, data = change
        length, stripes = self.after.things[path]
        parts = parts_of(at, data, self._block)
        if len(parts) > len(self._free):
            raise Refused(index, ("no room",))
        touched = []
        for number, start, some in parts:
            in_block = min(self._block, max(0, length - number * self._block))
            fill = Fill(self._free.pop(0), start, some, in_block)
            if fill.stays():
                fill.source = stripes[number]
                self._read(index, fill.source)
            self._fills.append(fill)
            touched.append((number, fill.stripe))
        return ("put", path, max(length, at + len(data)), tuple(touched))

    def _read(self, index, stripe):
        """Reads a stripe on the disks, unless a change wrote it."""
        if stripe not in [fill.stripe for fill in self._fills]:
            self.reads.append((index, stripe))
