"""Files, folders and snapshots over disks that rot."""

from rotward.access import ask_all, ask_vote, ask_word, mend, write_same, write_tails, write_word
from rotward.changes import problem_of_file
from rotward.codes import write_image
from rotward.disks import is_number
from rotward.errors import AlreadyFormatted, DamagedData, DisksFull, FilesClosed, FilesLost, FilesOpen
from rotward.errors import InvalidArgument, NotFormatted, PowerOff, Refused
from rotward.log import Log, area_size, area_start, log_block, read_tail, region_start, stripe_count
from rotward.states import Plan, State, lengths_of, sorted_things
from rotward.words import SECTOR, accepted, make_word


def check_disks(disks, new):
    """Raises an error if the disks cannot be formatted, or the files not be opened."""
    if not disks.is_on():
        raise PowerOff("power is off")
    if new:
        if disks.formatted:
            raise AlreadyFormatted("the disks are formatted already")
        return
    if not disks.formatted:
        raise NotFormatted("the disks are not formatted")
    if disks.in_use:
        raise FilesOpen("the files are open already")


def write_log(disks, log, first):
    """Writes the sectors of a Log from an index on."""
    start = area_start(disks.sizes()[1], log.area)
    for at in range(first, len(log.sectors)):
        write_same(disks, start + at, log.sectors[at])


def found_tail(disks):
    """The number of the tail that counts, and what it tells; raises FilesLost if there is none."""
    found = [read_tail(ask_vote(disks, number)) for number in range(2)]
    if found[0] is None and found[1] is None:
        raise FilesLost("there is no tail")
    if found[0] is None or (found[1] is not None and found[1][0] > found[0][0]):
        return 1, found[1]
    return 0, found[0]


def found_log(disks, told):
    """The Log that a tail tells; raises FilesLost if it cannot be told."""
    sectors = disks.sizes()[1]
    commits, area, image, counting = told
    if counting > area_size(sectors):
        raise FilesLost("the tail counts more sectors than an area has")
    start = area_start(sectors, area)
    found = [ask_vote(disks, start + at) for at in range(counting)]
    if None in found:
        raise FilesLost("a sector that counts cannot be told")
    return Log(commits, area, image, found)


class Files:
    """Files, folders and snapshots on disks."""

    def __init__(self, disks, new):
        check_disks(disks, new)
        self._disks = disks
        self._log = None
        self._state = State(stripe_count(disks.sizes()[1]), SECTOR * disks.sizes()[2])
        if new:
            self._format()
            disks.formatted = True
        else:
            self._find()
        disks.in_use = True
        self._losses = disks.losses()

    def change(self, changes):
        """Makes all changes, or none."""
        self._check()
        if len(changes) == 0:
            return
        plan = Plan(self._state, changes)
        found = self._found(plan, changes)
        log = self._log.grown(plan.after, plan.records, self._size())
        if log is None:
            raise DisksFull("the image of the files does not fit into an area")
        for stripe, block in plan.writes(found):
            self._write_stripe(stripe, block)
        # In the same area only the group is new, and in the other one all of it.
        write_log(self._disks, log, len(self._log.sectors) if log.area == self._log.area else 0)
        self._disks.sync()
        write_tails(self._disks, 0, log.tail())
        self._log = log
        self._state = plan.after

    def read(self, path, start, end, snapshot=None):
        """The bytes of a file from one index up to another one, None for each that is lost."""
        self._check()
        if not 0 <= start <= end:
            raise InvalidArgument("a range begins at 0 or later, and does not end before it begins")
        things = self._things(snapshot)
        problem = problem_of_file(lengths_of(things), path, end)
        if problem is not None:
            raise Refused(0, problem)
        if start == end:
            return []
        size = self._state.block
        first = start // size
        told = []
        for stripe in things[path][1][first:(end - 1) // size + 1]:
            block = self._read_stripe(stripe)
            told.extend([None] * size if block is None else block)
        return told[start - first * size:end - first * size]

    def tree(self, snapshot=None):
        """The paths of all folders and files, with None or the length, in the order of paths."""
        self._check()
        return list(sorted_things(lengths_of(self._things(snapshot))))

    def snapshots(self):
        """The sorted names of the snapshots."""
        self._check()
        return sorted(self._state.snapshots)

    def scrub(self, steps):
        """Goes over so many places; the number of sectors written, and the stripes found lost."""
        self._check()
        if not is_number(steps, 1, 8):
            raise InvalidArgument("steps is an integer from 1 to 8")
        disks = self._disks
        places = self._places()
        written = 0
        lost = []
        for _ in range(steps):
            place = disks.scrub_place % len(places)
            # A step counts also if power fails in it, so this comes before anything is written.
            disks.scrub_place = place + 1
            sector, content = places[place]
            cells = ask_all(disks, sector)
            word = self._meant(cells, content)
            if word is None:
                lost.append(sector - self._region())
            else:
                written += mend(disks, sector, cells, word)
        disks.sync()
        return written, lost

    def status(self):
        """The numbers of commits, of groups, of sectors left in the area, and of free stripes."""
        self._check()
        left = self._size() - len(self._log.sectors)
        free = self._state.stripes - len(self._state.used())
        return self._log.commits, self._log.groups(), left, free

    def _check(self):
        """Raises FilesClosed if power has failed since the files were opened."""
        if self._disks.losses() != self._losses:
            raise FilesClosed("power has failed since the files were opened")

    def _size(self):
        """The number of sectors of an area."""
        return area_size(self._disks.sizes()[1])

    def _region(self):
        """The first sector of the region."""
        return region_start(self._disks.sizes()[1])

    def _format(self):
        """Writes the empty state and the tails that tell it."""
        image = log_block(write_image(0, self._state))
        self._log = Log(0, 0, len(image), image)
        write_log(self._disks, self._log, 0)
        self._disks.sync()
        write_tails(self._disks, 0, self._log.tail())

    def _find(self):
        """Finds what counts, and writes its tail again; raises FilesLost."""
        number, told = found_tail(self._disks)
        self._log = found_log(self._disks, told)
        try:
            self._state = self._log.state(self._state.stripes, self._state.block)
        except DamagedData as error:
            raise FilesLost("the sectors that count are damaged") from error
        write_tails(self._disks, number, self._log.tail())

    def _things(self, snapshot):
        """The things now or in a snapshot; raises Refused if there is no such snapshot."""
        if snapshot is None:
            return self._state.things
        if snapshot not in self._state.snapshots:
            raise Refused(0, ("no snapshot", snapshot))
        return self._state.snapshots[snapshot]

    def _read_stripe(self, stripe):
        """The block of a stripe, or None if it is lost."""
        word = ask_word(self._disks, self._region() + stripe)
        if word is None:
            return None
        block = []
        for content in word[:self._disks.sizes()[2]]:
            block.extend(content)
        return block

    def _write_stripe(self, stripe, block):
        """Writes a block as the word of a stripe."""
        parts = [block[at:at + SECTOR] for at in range(0, len(block), SECTOR)]
        write_word(self._disks, self._region() + stripe, make_word(parts, self._disks.sizes()[0]))

    def _found(self, plan, changes):
        """The blocks that a plan needs; raises Refused if one of them is lost."""
        found = [self._read_stripe(stripe) for _, stripe in plan.reads]
        for (index, _), block in zip(plan.reads, found):
            if block is None:
                raise Refused(index, ("lost", changes[index][1]))
        return found

    def _places(self):
        """The places of a scrub: pairs of a sector and its content, which is None for a stripe."""
        content = self._log.tail()
        start = area_start(self._disks.sizes()[1], self._log.area)
        places = [(number, content) for number in range(2)]
        places.extend([(start + at, sector) for at, sector in enumerate(self._log.sectors)])
        region = self._region()
        return places + [(region + stripe, None) for stripe in self._state.used()]

    def _meant(self, cells, content):
        """What all disks are meant to hold: always the content of the low part, otherwise a word."""
        if content is not None:
            return [content] * len(cells)
        return accepted(cells, self._disks.sizes()[2], self._disks.sizes()[3])
