"""Trees: files and folders of bytes, what the changes make of them, and their snapshots."""

from rotward.changes import copy_snapshots, copy_things, problem_of, remake
from rotward.errors import Refused


def lengths_of(things):
    """None for the path of each folder, and the number of bytes for that of each file."""
    return {path: None if data is None else len(data) for path, data in things.items()}


def put_bytes(old, at, data):
    """The bytes of a file after a put."""
    return old[:at] + tuple(data) + old[at + len(data):]


class Tree:
    """Files and folders of bytes, and snapshots of these."""

    def __init__(self):
        self.things = {}
        self.snapshots = {}

    def copy(self):
        """The same Tree once more."""
        tree = Tree()
        tree.things = copy_things(self.things)
        tree.snapshots = copy_snapshots(self.snapshots)
        return tree

    def problem(self, change):
        """The problem of a change, without those that come of disks, or None."""
        return problem_of(lengths_of(self.things), self.snapshots, change)

    def made(self, change):
        """The Tree after a change that has no problem."""
        tree = self.copy()
        kind, path = change[0], change[1]
        if kind == "put":
            tree.things[path] = put_bytes(self.things[path], change[2], change[3])
        elif kind == "trim":
            tree.things[path] = self.things[path][:change[2]]
        else:
            remake(tree.things, tree.snapshots, change, ())
        return tree

    def made_all(self, changes):
        """The Tree after all changes; raises Refused for the first one that has a problem."""
        tree = self.copy()
        for index, change in enumerate(changes):
            told = tree.problem(change)
            if told is not None:
                raise Refused(index, told)
            tree = tree.made(change)
        return tree
