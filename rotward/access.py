"""How files ask disks and write to them: the low part by votes, the stripes by words."""

from rotward.words import accepted, read_word, vote


def ask_there(disks, disk, sector):
    """The cell of a sector of a disk; only a disk that is there is asked."""
    if disks.is_there(disk):
        return disks.ask(disk, sector)
    return None


def ask_all(disks, sector):
    """The cells of a sector of all disks."""
    return [ask_there(disks, disk, sector) for disk in range(disks.sizes()[0])]


def ask_vote(disks, sector):
    """The content of a sector that is the same on all disks, or None if it cannot be told."""
    return vote(ask_all(disks, sector), disks.sizes()[3])


def ask_word(disks, sector):
    """The word of a stripe, or None if it is lost; no further disks are asked than reading needs."""
    many, _, carrying, depth = disks.sizes()
    cells = []
    while len(cells) < many and len(cells) - cells.count(None) < carrying + depth:
        cells.append(ask_there(disks, len(cells), sector))
    word, looked = read_word(cells + [None] * (many - len(cells)), carrying, depth)
    if looked <= len(cells):
        return word
    # What was asked is not of one word, so reading goes on over all other disks.
    cells.extend([ask_there(disks, disk, sector) for disk in range(len(cells), many)])
    return accepted(cells, carrying, depth)


def write_word(disks, sector, word):
    """Writes a sector of each disk, in the order of disks."""
    for disk, content in enumerate(word):
        disks.write(disk, sector, content)


def write_same(disks, sector, content):
    """Writes the same sector on all disks."""
    write_word(disks, sector, [content] * disks.sizes()[0])


def write_tails(disks, first, content):
    """Writes both tails, with a sync behind each; `first` is the one to begin with."""
    for number in (first, 1 - first):
        write_same(disks, number, content)
        disks.sync()


def mend(disks, sector, cells, word):
    """Writes a sector of each disk that is there and whose cell is not the word's; tells how many."""
    written = 0
    for disk, content in enumerate(word):
        if disks.is_there(disk) and cells[disk] != content:
            disks.write(disk, sector, content)
            written += 1
    return written
