"""The keeper: a database and the transactions behind it, kept on a disk."""

from farfacts.blocks import CHANGES_MARK, ENTITY_MARK, decode_head, encode_head, encode_record, read_record
from farfacts.databases import Database
from farfacts.disks import BLOCK
from farfacts.errors import ChangeRefused, HouseFull, NotKept, NotOpen, OutOfRange, TextFault
from farfacts.history import BASE_MOST, VERSIONS_MOST, History
from farfacts.reading import read_changes
from farfacts.writing import write_changes

# The blocks before the areas, one for the head of each area.
HEADS = 2
AREAS = 2
GENERATIONS = 256


def area_size(disk):
    """How many blocks an area of the disk has."""
    return (disk.size() - HEADS) // AREAS


def area_start(disk, area):
    """The place of the first block of the area."""
    return HEADS + area * area_size(disk)


def write_entity(entity):
    """The entity as the text of the changes that make it."""
    uid, attributes, parents = entity
    return write_changes([("make", uid, parents)] + [("set", uid, name, value) for name, value in attributes])


def read_entity(text):
    """The entity that the changes in the text make, or None."""
    try:
        changes = read_changes(text)
    except TextFault:
        return None
    if not changes or changes[0][0] != "make":
        return None
    _, uid, parents = changes[0]
    if not all([change[:2] == ("set", uid) for change in changes[1:]]):
        return None
    return (uid, tuple([change[2:] for change in changes[1:]]), parents)


def snapshot_for(disk, database):
    """The list of the blocks of the snapshot of the database, if it fits into an area of the disk."""
    blocks = []
    for number, entity in enumerate(database.entities()):
        blocks.extend(encode_record(ENTITY_MARK, number, write_entity(entity)))
    if len(blocks) > area_size(disk):
        raise HouseFull("the snapshot does not fit into an area")
    return blocks


def read_snapshot(blocks, many):
    """The database of so many entities whose snapshot begins the blocks of an area, and the index behind it."""
    entities = []
    at = 0
    for number in range(many):
        found = read_record(blocks, at, ENTITY_MARK, number)
        entity = None if found is None else read_entity(found[0])
        if entity is None:
            raise NotKept(f"entity {number} is not whole")
        entities.append(entity)
        at = found[1]
    try:
        database = Database(entities)
    except OutOfRange:
        raise NotKept("the entities are no database") from None
    if database.entities() != entities:
        raise NotKept("the entities are not in order")
    return (database, at)


def read_log(history, blocks, at):
    """The history with the transactions of the log from here on in the blocks of an area, and the index behind it."""
    after = history.duplicate()
    while after.newest() < history.base() + VERSIONS_MOST:
        found = read_record(blocks, at, CHANGES_MARK, after.newest() + 1)
        if found is None:
            break
        try:
            after.commit(read_changes(found[0]))
        except (TextFault, OutOfRange, ChangeRefused):
            break
        at = found[1]
    return (after, at)


def write_area(disk, area, blocks):
    """Writes the blocks and, behind them, zeros to the area, and flushes."""
    start = area_start(disk, area)
    for at, block in enumerate(blocks):
        disk.write(start + at, block)
    clear_rest(disk, area, len(blocks))


def clear_rest(disk, area, used):
    """Writes zeros to the area behind so many blocks of it, and flushes."""
    start = area_start(disk, area)
    for at in range(used, area_size(disk)):
        disk.write(start + at, [0] * BLOCK)
    disk.flush()


def format_disk(disk, database):
    """Keeps the database, and nothing else, on the disk."""
    write_area(disk, 0, snapshot_for(disk, database))
    for place, generation in ((0, 0), (1, GENERATIONS - 1)):
        disk.write(place, encode_head(generation, 0, database.many()))
    disk.flush()


def newest_head(disk):
    """The newest head, or None."""
    one = decode_head(disk.read(0))
    two = decode_head(disk.read(1))
    if one is None or two is None:
        return two if one is None else one
    return two if two[0] == (one[0] + 1) % GENERATIONS else one


def open_disk(disk):
    """A keeper of what the disk keeps."""
    head = newest_head(disk)
    # No head that is written has a greater base.
    if head is None or head[1] > BASE_MOST:
        raise NotKept("there is no head")
    generation, base, many = head
    area = generation % AREAS
    start = area_start(disk, area)
    blocks = [disk.read(start + at) for at in range(area_size(disk))]
    database, at = read_snapshot(blocks, many)
    history, at = read_log(History(database, base), blocks, at)
    clear_rest(disk, area, at)
    return Keeper(disk, generation, history, at)


class Keeper:
    """The history that a disk keeps, until the power is cut."""

    def __init__(self, disk, generation, history, used):
        self._disk = disk
        self._cuts = disk.cut_count()
        self._generation = generation
        self._history = history
        # How many blocks of the area have been written.
        self._used = used

    def is_open(self):
        """Whether the power was not cut since the disk was opened."""
        return self._disk.cut_count() == self._cuts

    def _check_open(self):
        """Refuses every use after a cut, since what was not flushed may be lost."""
        if not self.is_open():
            raise NotOpen("the power was cut")

    def append(self, changes):
        """Writes a transaction to the log, without a flush; the version that it makes."""
        self._check_open()
        after = self._history.duplicate()
        version = after.commit(changes)
        blocks = encode_record(CHANGES_MARK, version, write_changes(changes))
        if len(blocks) > self.free_blocks():
            raise HouseFull("the transaction does not fit into the area")
        start = area_start(self._disk, self._generation % AREAS) + self._used
        for at, block in enumerate(blocks):
            self._disk.write(start + at, block)
        self._used += len(blocks)
        self._history = after
        return version

    def sync(self):
        """Flushes all that was appended."""
        self._check_open()
        self._disk.flush()

    def compact(self):
        """Begins anew with the newest database as the snapshot of the other area."""
        database = self.database(self.newest())
        blocks = snapshot_for(self._disk, database)
        history = History(database, self.newest())
        generation = (self._generation + 1) % GENERATIONS
        area = generation % AREAS
        write_area(self._disk, area, blocks)
        # The other area is whole on the disk before the head that makes it count.
        self._disk.write(area, encode_head(generation, history.base(), database.many()))
        self._disk.flush()
        self._generation = generation
        self._history = history
        self._used = len(blocks)

    def base(self):
        """The version of the snapshot."""
        self._check_open()
        return self._history.base()

    def newest(self):
        """The last version."""
        self._check_open()
        return self._history.newest()

    def database(self, version):
        """The database at the version."""
        self._check_open()
        return self._history.database(version)

    def fact(self, read, version, upto):
        """The fact of the read at the version, up to another one."""
        self._check_open()
        return self._history.fact(read, version, upto)

    def history(self):
        """A new History with the same."""
        self._check_open()
        return self._history.duplicate()

    def free_blocks(self):
        """How many blocks are left in the area."""
        self._check_open()
        return area_size(self._disk) - self._used
