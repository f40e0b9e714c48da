"""The house: it keeps the data, and answers with facts at the versions that are on its disk for good."""

from farfacts.errors import NotOpen, OutOfRange
from farfacts.evaluating import join_reads
from farfacts.facts import is_read
from farfacts.keeper import open_disk

READS_MOST = 40


class House:
    """What is kept on a disk, and how far it is synced."""

    def __init__(self, disk):
        self._keeper = open_disk(disk)
        self._synced = self._keeper.newest()

    def is_open(self):
        """Whether the power was not cut since the disk was opened."""
        return self._keeper.is_open()

    def commit(self, changes):
        """Makes a version by a transaction, which is not synced; returns it."""
        return self._keeper.append(changes)

    def sync(self):
        """Syncs all versions; the last one."""
        self._keeper.sync()
        self._synced = self._keeper.newest()
        return self._synced

    def compact(self):
        """Makes room for more versions, and syncs all; the last one."""
        self._keeper.compact()
        self._synced = self._keeper.newest()
        return self._synced

    def synced(self):
        """The last version that is synced."""
        return self._synced

    def newest(self):
        """The last version."""
        return self._keeper.newest()

    def base(self):
        """The first version."""
        return self._keeper.base()

    def answer(self, reads):
        """The list of the facts of the reads, one for each different read, at the synced version."""
        if not self.is_open():
            raise NotOpen("the power was cut")
        if len(reads) > READS_MOST or not all([is_read(read) for read in reads]):
            raise OutOfRange("reads")
        return [self._keeper.fact(read, self._synced, self._synced) for read in join_reads([], reads)]

    def database(self, version):
        """The database at the version, synced or not."""
        return self._keeper.database(version)

    def free_blocks(self):
        """How many blocks are left for transactions."""
        return self._keeper.free_blocks()
