"""Histories: a database at each of its versions."""

from farfacts.errors import HistoryFull, OutOfRange

VERSIONS_MOST = 200
BASE_MOST = 90000


class History:
    """Databases at versions that follow each other, from a base on."""

    def __init__(self, database, base):
        if not 0 <= base <= BASE_MOST:
            raise OutOfRange("base")
        self._base = base
        self._databases = [database]

    def base(self):
        """The first version."""
        return self._base

    def newest(self):
        """The last version."""
        return self._base + len(self._databases) - 1

    def commit(self, changes):
        """Makes the next version by a transaction; returns it."""
        after = self._databases[-1].changed(changes)
        if len(self._databases) > VERSIONS_MOST:
            raise HistoryFull(f"there are {VERSIONS_MOST} versions behind the base")
        self._databases.append(after)
        return self.newest()

    def database(self, version):
        """The database at the version."""
        if not self._base <= version <= self.newest():
            raise OutOfRange("version")
        return self._databases[version - self._base]

    def told(self, read, version):
        """What is told to the read at the version."""
        return self.database(version).tell(read)

    def fact(self, read, version, upto):
        """The fact of the read at the version, up to another one."""
        told = self.told(read, version)
        if not version <= upto <= self.newest():
            raise OutOfRange("upto")
        first = version
        while first > self._base and self.told(read, first - 1) == told:
            first -= 1
        last = version
        while last < upto and self.told(read, last + 1) == told:
            last += 1
        return (read, told, first, last)

    def duplicate(self):
        """A new History with the same databases at the same versions."""
        other = History(self._databases[0], self._base)
        other._databases = list(self._databases)
        return other
