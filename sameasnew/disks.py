"""Disks whose power can fail."""

from sameasnew.errors import OutOfRange, PowerCut

BLOCK = 32
BLOCKS_LEAST = 8
BLOCKS_MOST = 400
BYTE_MOST = 255
SCHEDULE_MOST = 100000


class Disk:
    """Blocks, and the writes that wait for a flush, as tuples of an index and a block, in order."""

    def __init__(self, blocks):
        if not BLOCKS_LEAST <= blocks <= BLOCKS_MOST:
            raise OutOfRange("blocks")
        self.stored = [[0] * BLOCK for _ in range(blocks)]
        self.waiting = []
        self.cuts = 0
        self.scheduled = None

    def size(self):
        """How many blocks the disk has."""
        return len(self.stored)

    def read(self, at):
        """A block as the waiting writes would leave it; a new list."""
        self.check_index(at)
        block = self.stored[at]
        for place, written in self.waiting:
            if place == at:
                block = written
        return list(block)

    def write(self, at, block):
        """Writes a block, which waits until a flush."""
        self.check_index(at)
        if len(block) != BLOCK or not all([0 <= byte <= BYTE_MOST for byte in block]):
            raise OutOfRange("block")
        self.count_action()
        self.waiting.append((at, list(block)))

    def flush(self):
        """Performs all waiting writes."""
        self.count_action()
        for at, block in self.waiting:
            self.stored[at] = block
        self.waiting = []

    def pending_count(self):
        """How many writes wait."""
        return len(self.waiting)

    def cut_count(self):
        """How often the power was cut."""
        return self.cuts

    def cut_power(self, torn):
        """Cuts the power; of each waiting write only so many bytes are stored."""
        check_torn(torn)
        for number, (at, block) in enumerate(self.waiting):
            many = torn[number] if number < len(torn) else 0
            self.stored[at] = block[:many] + self.stored[at][many:]
        self.waiting = []
        self.cuts += 1
        self.scheduled = None

    def schedule_cut(self, many, torn):
        """The power will be cut at the next write or flush behind so many further ones."""
        if not 0 <= many <= SCHEDULE_MOST:
            raise OutOfRange("many")
        check_torn(torn)
        self.scheduled = (many, list(torn))

    def check_index(self, at):
        """There must be a block with this index."""
        if not 0 <= at < len(self.stored):
            raise OutOfRange("at")

    def count_action(self):
        """Counts a write or a flush, at which the power is cut if this was scheduled."""
        if self.scheduled is None:
            return
        many, torn = self.scheduled
        if many == 0:
            self.cut_power(torn)
            raise PowerCut("the power was cut, as it was scheduled")
        self.scheduled = (many - 1, torn)


def check_torn(torn):
    """The items must be such that so many bytes of a block can be stored."""
    if not all([0 <= many <= BLOCK for many in torn]):
        raise OutOfRange("torn")
