"""Disks: blocks of bytes, written for good by a flush, and lost or torn by a cut of the power before it."""

from farfacts.errors import OutOfRange, PowerCut

BLOCK = 32
BLOCKS_LEAST = 8
BLOCKS_MOST = 400
BYTE_MOST = 255
DELAY_MOST = 100000


def is_block(block):
    """Whether this is a block of bytes."""
    return len(block) == BLOCK and all([0 <= byte <= BYTE_MOST for byte in block])


def check_torn(torn):
    """Refuses what does not tell how many bytes of blocks are stored."""
    if not all([0 <= many <= BLOCK for many in torn]):
        raise OutOfRange("torn")


class Disk:
    """Blocks, the writes that wait for a flush, and perhaps a cut of the power that is to come."""

    def __init__(self, blocks):
        if not BLOCKS_LEAST <= blocks <= BLOCKS_MOST:
            raise OutOfRange("blocks")
        self._blocks = [[0] * BLOCK for _ in range(blocks)]
        # Pairs of a place and a block.
        self._waiting = []
        self._cuts = 0
        # How many writes and flushes still go well, and how a cut tears then; or None.
        self._schedule = None

    def size(self):
        """The number of the blocks."""
        return len(self._blocks)

    def _check_place(self, at):
        """Refuses a place at which there is no block."""
        if not 0 <= at < self.size():
            raise OutOfRange("at")

    def read(self, at):
        """The block at this place, as the waiting writes would leave it."""
        self._check_place(at)
        found = self._blocks[at]
        for place, block in self._waiting:
            if place == at:
                found = block
        return list(found)

    def write(self, at, block):
        """Lets a write of the block to this place wait for a flush."""
        self._check_place(at)
        if not is_block(block):
            raise OutOfRange("block")
        self._count_down()
        self._waiting.append((at, list(block)))

    def flush(self):
        """Performs all waiting writes."""
        self._count_down()
        for at, block in self._waiting:
            self._blocks[at] = block
        self._waiting = []

    def _count_down(self):
        """Comes one write or flush nearer to the scheduled cut, which takes the place of the last one."""
        if self._schedule is None:
            return
        many, torn = self._schedule
        if many == 0:
            self.cut_power(torn)
            raise PowerCut("the power was cut")
        self._schedule = (many - 1, torn)

    def pending_count(self):
        """How many writes wait."""
        return len(self._waiting)

    def cut_count(self):
        """How often the power was cut."""
        return self._cuts

    def cut_power(self, torn):
        """Cuts the power: of each waiting write only so many bytes are stored, none where torn does not tell."""
        check_torn(torn)
        for (at, block), many in zip(self._waiting, torn):
            self._blocks[at] = block[:many] + self._blocks[at][many:]
        self._waiting = []
        self._schedule = None
        self._cuts += 1

    def schedule_cut(self, many, torn):
        """Lets the power be cut in place of the write or flush that comes behind so many others."""
        if not 0 <= many <= DELAY_MOST:
            raise OutOfRange("many")
        check_torn(torn)
        self._schedule = (many, list(torn))
