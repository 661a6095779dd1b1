"""The log: the parts of a disk, log blocks, tails, and what counts of them."""

from rotward.codes import Reader, write_group, write_image
from rotward.errors import DamagedData
from rotward.words import SECTOR

TAILS = 2
SIGN = (70, 73, 76, 69)
# How many bytes a tail has for the commits, the area, the image and what counts.
WIDTHS = (6, 1, 4, 4)
HEAD = 4


def area_size(sectors):
    """The number of sectors of an area, on disks of so many sectors."""
    return (sectors - TAILS) // 4


def area_start(sectors, area):
    """The first sector of an area."""
    return TAILS + area * area_size(sectors)


def region_start(sectors):
    """The first sector behind the low part."""
    return area_start(sectors, 2)


def stripe_count(sectors):
    """The number of stripes."""
    return sectors - region_start(sectors)


def fixed(number, width):
    """A number in so many bytes, the most significant first."""
    return [number >> 8 * place & 255 for place in reversed(range(width))]


def number_of(data):
    """The number that bytes tell, the most significant first."""
    number = 0
    for byte in data:
        number = number * 256 + byte
    return number


def log_block(data):
    """The sectors of the log block that holds a list of bytes."""
    whole = fixed(len(data), HEAD) + list(data)
    whole = whole + [0] * (-len(whole) % SECTOR)
    return [whole[at:at + SECTOR] for at in range(0, len(whole), SECTOR)]


def read_block(sectors, start):
    """The bytes of the log block that starts at an index, and the index behind it, or None."""
    if start >= len(sectors):
        return None
    end = HEAD + number_of(sectors[start][:HEAD])
    behind = start + (end + SECTOR - 1) // SECTOR
    if behind > len(sectors):
        return None
    whole = []
    for sector in sectors[start:behind]:
        whole.extend(sector)
    return whole[HEAD:end], behind


def read_blocks(sectors):
    """The bytes of all log blocks that sectors are; raises DamagedData if they are something else."""
    found = []
    at = 0
    while at < len(sectors):
        told = read_block(sectors, at)
        if told is None:
            raise DamagedData("a log block does not end within the sectors")
        data, at = told
        found.append(data)
    return found


def tail(commits, area, image, counting):
    """The sector of a tail."""
    sector = list(SIGN)
    for number, width in zip((commits, area, image, counting), WIDTHS):
        sector.extend(fixed(number, width))
    return sector + [0] * (SECTOR - len(sector))


def read_tail(sector):
    """The four numbers of a tail, or None if a sector is no tail."""
    if sector is None:
        return None
    numbers = []
    at = len(SIGN)
    for width in WIDTHS:
        numbers.append(number_of(sector[at:at + width]))
        at += width
    commits, area, image, counting = numbers
    if area > 1 or tail(commits, area, image, counting) != sector:
        return None
    return commits, area, image, counting


def read_groups(blocks):
    """The records of all groups, one after another; raises DamagedData if one is damaged."""
    records = []
    for data in blocks:
        reader = Reader(data)
        records.extend(reader.read_group())
        reader.end()
    return records


class Log:
    """What counts of an area: an image, and the groups of later commits."""

    def __init__(self, commits, area, image, sectors):
        self.commits = commits
        self.area = area
        self.image = image
        self.sectors = [list(sector) for sector in sectors]

    def tail(self):
        """The sector of the tail that tells this Log."""
        return tail(self.commits, self.area, self.image, len(self.sectors))

    def grown(self, state, records, size):
        """The Log after a commit of records that leads to a state, or None if it cannot be stored."""
        commits = self.commits + 1
        image = log_block(write_image(commits, state))
        # A later commit may have to write the image, so it is not enough that the group fits.
        if len(image) > size:
            return None
        sectors = self.sectors + log_block(write_group(records))
        if len(sectors) <= size:
            return Log(commits, self.area, self.image, sectors)
        return Log(commits, 1 - self.area, len(image), image)

    def groups(self):
        """The number of groups behind the image."""
        return len(read_blocks(self.sectors)) - 1

    def state(self, stripes, block):
        """The State that the image and the groups make; raises DamagedData if they are damaged."""
        blocks = read_blocks(self.sectors)
        if blocks == [] or len(log_block(blocks[0])) != self.image:
            raise DamagedData("there is no image of as many sectors")
        reader = Reader(blocks[0])
        commits, state = reader.read_image(stripes, block)
        reader.end()
        if commits + len(blocks) - 1 != self.commits:
            raise DamagedData("there is another number of commits")
        # All of them are read first, as a damaged one tells more than a record that cannot be made.
        for record in read_groups(blocks[1:]):
            state = state.after(record)
        return state
