"""The link: a house on its disk, desks, and the letters between them."""

from farfacts.desks import Desk
from farfacts.disks import Disk
from farfacts.errors import NoLetter, OutOfRange
from farfacts.house import READS_MOST, House
from farfacts.keeper import format_disk

DESKS_MOST = 3


class Link:
    """A house and its desks, and the row of the letters that are on their way."""

    def __init__(self, database, policies, desks, blocks):
        if not 1 <= desks <= DESKS_MOST:
            raise OutOfRange("desks")
        self._disk = Disk(blocks)
        format_disk(self._disk, database)
        self._house = House(self._disk)
        self._desks = [Desk(policies) for _ in range(desks)]
        self._letters = []

    def _desk(self, desk):
        """The desk with this index."""
        if not 0 <= desk < len(self._desks):
            raise OutOfRange("desk")
        return self._desks[desk]

    def begin(self, desk, request, mode):
        """Begins a session of the desk; its number."""
        return self._desk(desk).begin(request, mode)

    def send(self, desk, number):
        """Sends what the session asks for, as far as it fits into a letter; how many reads this is."""
        return self._put_asks(desk, self._desk(desk).asks(number))

    def renew(self, desk, number):
        """Sends the reads of deciding the session, likewise."""
        return self._put_asks(desk, self._desk(desk).renew(number))

    def _put_asks(self, desk, reads):
        """Puts a letter with the first of the reads, if there are any, into the row; how many reads it has."""
        first = tuple(reads[:READS_MOST])
        if first:
            self._letters.append(("asks", desk, first))
        return len(first)

    def told(self, desk, number):
        """The decision of the session at the version of the desk, with its span, or None."""
        return self._desk(desk).told(number)

    def told_at(self, desk, number, version):
        """The decision of the session at the version, with its span, or None."""
        return self._desk(desk).told_at(number, version)

    def paper(self, desk, number):
        """The paper of the decision of the session, or None."""
        return self._desk(desk).paper(number)

    def letters(self):
        """The list of the letters, the eldest first."""
        return list(self._letters)

    def _letter(self, letter):
        """The letter with this index."""
        if not 0 <= letter < len(self._letters):
            raise NoLetter(f"there is no letter {letter}")
        return self._letters[letter]

    def drop(self, letter):
        """Loses the letter."""
        self._letter(letter)
        del self._letters[letter]

    def duplicate(self, letter):
        """Puts the letter into the row once more."""
        self._letters.append(self._letter(letter))

    def deliver(self, letter):
        """Lets the house answer, or the desk learn; how many facts there were, or how many were new."""
        kind, desk, rows = self._letter(letter)
        if kind == "facts":
            many = self._desks[desk].learn(list(rows))
        else:
            facts = self._house.answer(list(rows))
            self._letters.append(("facts", desk, tuple(facts)))
            many = len(facts)
        del self._letters[letter]
        return many

    def commit(self, changes):
        """Makes a version of the house, which is not synced; returns it."""
        return self._house.commit(changes)

    def sync(self):
        """Syncs all versions of the house; the last one."""
        return self._house.sync()

    def compact(self):
        """Makes room on the disk, and syncs all versions; the last one."""
        return self._house.compact()

    def house_version(self):
        """The last version that is synced, and the last one."""
        return (self._house.synced(), self._house.newest())

    def database(self, version):
        """The database of the house at the version."""
        return self._house.database(version)

    def is_open(self):
        """Whether the power was not cut since the house was opened."""
        return self._house.is_open()

    def cut_power(self, torn):
        """Cuts the power of the disk."""
        self._disk.cut_power(torn)

    def schedule_cut(self, many, torn):
        """Lets the power of the disk be cut behind so many writes and flushes."""
        self._disk.schedule_cut(many, torn)

    def reopen(self):
        """Opens the house on its disk anew; the synced version."""
        self._house = House(self._disk)
        return self._house.synced()
