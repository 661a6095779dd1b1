"""Changes of files and folders, as far as they are the same for trees and for states.

A dict of things has None for the path of each folder and something else for that of each file.
"""


def copy_things(things):
    """A dict of the same things."""
    return {path: things[path] for path in things}


def copy_snapshots(snapshots):
    """A dict of the same snapshots, which shares no dict with this one."""
    return {name: copy_things(snapshots[name]) for name in snapshots}


def lies_in(path, other):
    """Tells whether a path lies in another one; each lies in itself."""
    return path[:len(other)] == other


def is_folder(things, path):
    """Tells whether a path is the root or that of a folder."""
    return path == () or (path in things and things[path] is None)


def problem_of_new(things, path):
    """The problem of something that is to come at a path, or None."""
    if path == ():
        return ("root",)
    if not is_folder(things, path[:-1]):
        return ("no folder", path[:-1])
    if path in things:
        return ("exists", path)
    return None


def problem_of_old(things, path):
    """The problem of a path at which something other than the root has to be, or None."""
    if path == ():
        return ("root",)
    if path not in things:
        return ("nothing", path)
    return None


def problem_of_file(lengths, path, index):
    """The problem of a path at which a file has to be that is not shorter than an index, or None."""
    told = problem_of_old(lengths, path)
    if told is not None:
        return told
    if lengths[path] is None:
        return ("no file", path)
    if index > lengths[path]:
        return ("behind end", path)
    return None


def problem_of_move(things, path, to):
    """The problem of a move, or None."""
    told = problem_of_old(things, path)
    if told is not None:
        return told
    if lies_in(to, path):
        return ("in itself", path)
    return problem_of_new(things, to)


def problem_of(lengths, snapshots, change):
    """The problem of a change, or None; lengths is a dict of things, with the length of each file."""
    kind, what = change[0], change[1]
    if kind in ("folder", "file"):
        return problem_of_new(lengths, what)
    if kind in ("put", "trim"):
        return problem_of_file(lengths, what, change[2])
    if kind == "move":
        return problem_of_move(lengths, what, change[2])
    if kind == "drop":
        return problem_of_old(lengths, what)
    if kind == "snap":
        return ("snapshot", what) if what in snapshots else None
    return None if what in snapshots else ("no snapshot", what)


def inside(things, path):
    """The paths of the things that lie in a path."""
    return [other for other in things if lies_in(other, path)]


def move(things, path, to):
    """What lies in a path lies in another one instead; the dict is modified."""
    paths = inside(things, path)
    for other in paths:
        things[to + other[len(path):]] = things.pop(other)


def drop(things, path):
    """What lies in a path goes; the dict is modified."""
    paths = inside(things, path)
    for other in paths:
        del things[other]


def bring_back(things, snapshot):
    """The things become those of a snapshot; the dict of things is modified."""
    things.clear()
    for path in snapshot:
        things[path] = snapshot[path]


def remake(things, snapshots, change, empty):
    """Makes a change that is no put and no trim in both dicts, which are modified.

    A file that comes is `empty`.
    """
    kind, what = change[0], change[1]
    if kind == "folder":
        things[what] = None
    elif kind == "file":
        things[what] = empty
    elif kind == "move":
        move(things, what, change[2])
    elif kind == "drop":
        drop(things, what)
    elif kind == "snap":
        snapshots[what] = copy_things(things)
    elif kind == "forget":
        del snapshots[what]
    elif kind == "back":
        bring_back(things, snapshots[what])
