"""Points 15 to 24 once more, and changes at random, written apart from the program.

Folders are dicts within dicts here, and a file is a Leaf with its bytes and its stripes.
"""

from copy import deepcopy
from random import Random


class Leaf:
    """A file."""

    def __init__(self, data=(), stripes=()):
        self.data = tuple(data)
        self.stripes = tuple(stripes)


def flat(folder, value, path=()):
    """A dict of all that is in a folder, with the value of each file."""
    things = {}
    for name, node in folder.items():
        things[path + (name,)] = None if isinstance(node, dict) else value(node)
        if isinstance(node, dict):
            things.update(flat(node, value, path + (name,)))
    return things


class RuleTree:
    """Points 15 to 18."""

    def __init__(self):
        self.root = {}
        self.snaps = {}

    def find(self, path):
        node = self.root
        for name in path:
            node = node.get(name) if isinstance(node, dict) else None
        return node

    def things(self, value=lambda leaf: leaf.data):
        return flat(self.root, value)

    def snapshots(self, value=lambda leaf: leaf.data):
        return {name: flat(root, value) for name, root in self.snaps.items()}

    def problem(self, change):
        kind, what = change[:2]
        if kind in ("snap", "forget", "back"):
            if (what in self.snaps) == (kind == "snap"):
                return ("snapshot" if kind == "snap" else "no snapshot", what)
            return None
        if kind in ("folder", "file"):
            return self.problem_of_coming(what)
        if not what:
            return ("root",)
        node = self.find(what)
        if node is None:
            return ("nothing", what)
        if kind in ("put", "trim"):
            if isinstance(node, dict):
                return ("no file", what)
            return ("behind end", what) if change[2] > len(node.data) else None
        if kind == "move":
            if any(change[2][:size] == what for size in range(len(change[2]) + 1)):
                return ("in itself", what)
            return self.problem_of_coming(change[2])
        return None

    def problem_of_coming(self, path):
        if not path:
            return ("root",)
        if not isinstance(self.find(path[:-1]), dict):
            return ("no folder", path[:-1])
        return None if self.find(path) is None else ("exists", path)

    def make(self, change, stripes=()):
        """Makes a change; a put or trim gives the file these stripes."""
        kind, what = change[:2]
        if kind == "snap":
            self.snaps[what] = deepcopy(self.root)
        elif kind == "forget":
            self.snaps.pop(what)
        elif kind == "back":
            self.root = deepcopy(self.snaps[what])
        else:
            folder = self.find(what[:-1])
            node = folder.pop(what[-1], None)
            if kind == "folder":
                folder[what[-1]] = {}
            elif kind == "file":
                folder[what[-1]] = Leaf()
            elif kind == "put":
                data = dict(enumerate(node.data))
                data.update({change[2] + number: byte for number, byte in enumerate(change[3])})
                folder[what[-1]] = Leaf([data[number] for number in range(len(data))], stripes)
            elif kind == "trim":
                folder[what[-1]] = Leaf(node.data[:change[2]], stripes)
            elif kind == "move":
                self.find(change[2][:-1])[change[2][-1]] = node

    def leaves(self):
        """All files, now and in the snapshots."""
        found = list(flat(self.root, lambda leaf: leaf).values())
        for root in self.snaps.values():
            found.extend(flat(root, lambda leaf: leaf).values())
        return [leaf for leaf in found if leaf is not None]

    def used(self):
        return sorted({stripe for leaf in self.leaves() for stripe in leaf.stripes})


class RulePlan:
    """Points 20 to 24 for a copy of a tree whose files have bytes and stripes."""

    def __init__(self, tree, stripes, block, changes):
        self.tree = deepcopy(tree)
        self.block = block
        self.free = [stripe for stripe in range(stripes) if stripe not in tree.used()]
        self.records = []
        self.reads = []
        self.written = {}
        self.refused = None
        for index, change in enumerate(changes):
            problem = self.tree.problem(change)
            if problem is None and change[0] == "put":
                problem = self.put(index, change)
            elif problem is None and change[0] == "trim":
                self.trim(change)
            elif problem is None:
                self.tree.make(change)
                self.records.append(change)
            if problem is not None:
                self.refused = (index, problem)
                return

    def trim(self, change):
        blocks = len({index // self.block for index in range(change[2])})
        self.tree.make(change, self.tree.find(change[1]).stripes[:blocks])
        self.records.append(change + (blocks,))

    def put(self, index, change):
        _, path, at, data = change
        old = self.tree.find(path)
        put = range(at, at + len(data))
        touched = sorted({byte // self.block for byte in put})
        if len(touched) > len(self.free):
            return ("no room",)
        taken = self.free[:len(touched)]
        self.free = self.free[len(touched):]
        stripes = dict(enumerate(old.stripes))
        for block in touched:
            had = [byte for byte in range(len(old.data)) if byte // self.block == block]
            if [byte for byte in had if byte not in put] and stripes[block] not in self.written:
                self.reads.append((index, stripes[block]))
        stripes.update(zip(touched, taken))
        self.tree.make(change, [stripes[block] for block in range(len(stripes))])
        now = self.tree.find(path).data
        for block, stripe in zip(touched, taken):
            some = list(now[block * self.block:(block + 1) * self.block])
            self.written[stripe] = some + [0] * (self.block - len(some))
        self.records.append(("put", path, len(now), tuple(zip(touched, taken))))
        return None

    def writes(self):
        used = self.tree.used()
        return [(stripe, block) for stripe, block in sorted(self.written.items()) if stripe in used]


class Chance:
    """Changes at random, most of them of what is there, some of what is not."""

    def __init__(self, seed):
        self.random = Random(seed)

    def path(self, tree):
        known = list(tree.things())
        path = self.random.choice(known) if known and self.random.randrange(8) else ()
        if self.random.randrange(5) == 0:
            path = path + (self.random.choice("abc"),)
        return path

    def new_path(self, tree):
        folders = [()] + [path for path, thing in tree.things().items() if thing is None]
        if self.random.randrange(10) == 0:
            return self.path(tree)
        return self.random.choice(folders) + (self.random.choice(["a", "b", "c_1"]),)

    def change(self, tree):
        kind = self.random.choice(["put"] * 7 + ["file", "folder"] * 3 + ["trim", "move"] * 2
                                  + ["drop", "snap", "snap", "forget", "back"])
        if kind in ("snap", "forget", "back"):
            return (kind, self.random.choice(["s", "t"]))
        if kind in ("file", "folder"):
            return (kind, self.new_path(tree))
        if kind == "move":
            return (kind, self.path(tree), self.new_path(tree))
        if kind == "drop":
            return (kind, self.path(tree))
        files = [path for path, thing in tree.things().items() if thing is not None]
        path = self.random.choice(files) if files and self.random.randrange(12) else self.path(tree)
        length = len((tree.things().get(path) or ()))
        at = self.random.choice([0, length, length, self.random.randrange(length + 1), length + 1]
                                + [self.random.randrange(length + 1)] * 6)
        if kind == "trim":
            return (kind, path, at)
        many = self.random.choice([0, 1, 2, 3, 4, 5, 8, 9, 12])
        return (kind, path, at, tuple(self.random.choices(range(1, 256), k=many)))

    def row(self, tree, many):
        """So many changes, most of them possible one after another."""
        tree = deepcopy(tree)
        rows = []
        while len(rows) < many:
            change = self.change(tree)
            if tree.problem(change) is None:
                tree.make(change)
            elif self.random.randrange(12):
                continue
            rows.append(change)
        return rows
