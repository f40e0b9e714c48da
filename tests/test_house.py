import unittest

from farfacts import house
from farfacts.databases import Database
from farfacts.disks import Disk
from farfacts.errors import HouseFull, NotKept, NotOpen, PowerCut
from farfacts.facts import check_fact
from farfacts.house import House
from farfacts.keeper import format_disk
from helpers import Case, number

START = [("user:bob", (("age", number(0)),), ("group:a",)), ("group:a", (), ())]
AGE, NAME, ABOVE = ("attribute", "user:bob", "age"), ("attribute", "user:bob", "name"), ("ancestors", "user:bob")
CID = ("attribute", "user:cid", "age")
BAD_READS = (("attribute", "bob", "age"), ("attribute", "user:bob", ""), ("attribute", "user:bob", "Age"),
             ("attribute", "user:bob", "abcdefghijklm"), ("ancestors", ""), ("ancestors", "bob"), ("ancestors", "a:b:c"))


def aged(many):
    return [("set", "user:bob", "age", number(many))]


def told(many):
    return ("value", number(many))


class HouseTest(Case):
    def opened(self, blocks=40):
        disk = Disk(blocks)
        format_disk(disk, Database(START))
        return disk, House(disk)

    def check(self, made, synced, newest, base=0):
        self.exactly((made.synced(), made.newest(), made.base()), (synced, newest, base))

    def test_bound(self):
        self.exactly(house.READS_MOST, 40)

    def test_opening(self):
        disk, made = self.opened()
        self.check(made, 0, 0)
        self.exactly(made.free_blocks(), 16)
        self.assertRaises(NotKept, House, Disk(8))
        disk.schedule_cut(3, [])
        self.assertRaises(PowerCut, House, disk)

    def test_commit_sync_compact(self):
        disk, made = self.opened()
        changes = aged(1)
        self.exactly(made.commit(changes), 1)
        self.exactly(changes, aged(1))
        self.check(made, 0, 1)
        self.exactly(made.commit(aged(2)), 2)
        self.check(made, 0, 2)
        self.exactly(made.free_blocks(), 14)
        self.exactly(made.sync(), 2)
        self.check(made, 2, 2)
        self.exactly(made.sync(), 2)
        self.exactly(made.commit(aged(3)), 3)
        self.check(made, 2, 3)
        self.exactly(made.compact(), 3)
        self.check(made, 3, 3, 3)
        self.exactly(made.free_blocks(), 16)
        self.exactly(made.compact(), 3)
        self.exactly(made.commit(aged(4)), 4)
        self.check(made, 3, 4, 3)

    def test_what_is_found_is_synced(self):
        disk, made = self.opened()
        made.commit(aged(1))
        made.commit(aged(2))
        # The writes wait, and opening finds and flushes them.
        self.check(House(disk), 2, 2)
        made = House(disk)
        made.commit(aged(3))
        made.commit(aged(4))
        disk.cut_power([32, 31])
        self.check(House(disk), 3, 3)
        self.exactly(House(disk).answer([AGE]), [(AGE, told(3), 3, 3)])

    def test_refused(self):
        disk, made = self.opened()
        made.commit(aged(1))
        self.out_of_range("changes", made.commit, [])
        self.out_of_range("changes", made.commit, aged(1) * 9)
        self.refused(1, "entity exists", made.commit, aged(2) + [("make", "group:a", ())])
        self.check(made, 0, 1)
        for _ in range(15):
            made.commit(aged(2))
        self.exactly(made.free_blocks(), 0)
        self.assertRaises(HouseFull, made.commit, aged(3))
        self.out_of_range("changes", made.commit, [])
        self.check(made, 0, 16)

    def test_compact_without_room(self):
        disk = Disk(8)
        format_disk(disk, Database([]))
        made = House(disk)
        made.commit([("make", "a:" + sign, ()) for sign in "ab"])
        made.commit([("make", "a:" + sign, ()) for sign in "cd"])
        self.assertRaises(HouseFull, made.compact)
        self.check(made, 0, 2)

    def test_answers(self):
        disk, made = self.opened()
        self.exactly(made.answer([]), [])
        self.exactly(made.answer([AGE, ABOVE, NAME, CID]),
                     [(AGE, told(0), 0, 0), (ABOVE, ("above", ("group:a",)), 0, 0), (NAME, ("none",), 0, 0),
                      (CID, ("gone",), 0, 0)])
        made.commit(aged(0))
        made.commit(aged(1))
        made.commit(aged(1) + [("make", "user:cid", ())])
        # Nothing but what is synced is told.
        self.exactly(made.answer([AGE, CID]), [(AGE, told(0), 0, 0), (CID, ("gone",), 0, 0)])
        made.sync()
        self.exactly(made.answer([CID, AGE, ABOVE, NAME]),
                     [(CID, ("none",), 3, 3), (AGE, told(1), 2, 3), (ABOVE, ("above", ("group:a",)), 0, 3),
                      (NAME, ("none",), 0, 3)])
        made.commit(aged(1))
        made.commit([("drop", "group:a")])
        self.exactly(made.answer([AGE]), [(AGE, told(1), 2, 3)])
        made.sync()
        self.exactly(made.answer([AGE, ABOVE]), [(AGE, told(1), 2, 5), (ABOVE, ("above", ("group:a",)), 0, 5)])
        made.compact()
        self.exactly(made.answer([AGE, ABOVE]), [(AGE, told(1), 5, 5), (ABOVE, ("above", ("group:a",)), 5, 5)])
        made.commit([("under", "user:bob", ())])
        made.compact()
        self.exactly(made.answer([AGE, ABOVE]), [(AGE, told(1), 6, 6), (ABOVE, ("above", ()), 6, 6)])

    def test_equal_reads(self):
        disk, made = self.opened()
        self.exactly(made.answer([NAME, AGE, NAME, NAME, AGE]), [(NAME, ("none",), 0, 0), (AGE, told(0), 0, 0)])
        self.exactly(made.answer([AGE] * 40), [(AGE, told(0), 0, 0)])
        self.out_of_range("reads", made.answer, [AGE] * 41)

    def test_many_reads(self):
        disk, made = self.opened()
        reads = [("attribute", "user:bob", "n" + str(n)) for n in range(41)]
        found = made.answer(reads[:40])
        self.exactly(found, [(read, ("none",), 0, 0) for read in reads[:40]])
        for fact in found:
            self.assertIsNone(check_fact(fact))
        self.out_of_range("reads", made.answer, reads)
        self.out_of_range("reads", made.answer, reads * 3)

    def test_bad_reads(self):
        disk, made = self.opened()
        for read in BAD_READS:
            self.out_of_range("reads", made.answer, [read])
            self.out_of_range("reads", made.answer, [AGE, ABOVE, read])
            self.out_of_range("reads", made.answer, [read, AGE])
        self.check(made, 0, 0)

    def test_databases(self):
        disk, made = self.opened()
        made.commit(aged(1))
        made.sync()
        made.commit([("drop", "user:bob")])
        for version, wanted in ((0, START), (1, [("user:bob", (("age", number(1)),), ("group:a",)), START[1]]), (2, START[1:])):
            self.assertTrue(made.database(version).same(Database(wanted)))
        for version in (-1, 3, 100):
            self.out_of_range("version", made.database, version)
        made.compact()
        self.assertTrue(made.database(2).same(Database(START[1:])))
        for version in (0, 1, 3):
            self.out_of_range("version", made.database, version)

    def test_not_open(self):
        disk, made = self.opened()
        made.commit(aged(1))
        made.sync()
        disk.cut_power([])
        again = House(disk)
        for call in (lambda: made.commit(aged(2)), lambda: made.commit([]), made.sync, made.compact,
                     lambda: made.answer([AGE]), lambda: made.answer([]), lambda: made.answer(BAD_READS)):
            self.assertRaises(NotOpen, call)
        self.check(again, 1, 1)
        self.exactly(again.commit(aged(2)), 2)

    def test_cuts(self):
        disk, made = self.opened()
        made.commit(aged(1))
        disk.schedule_cut(0, [32])
        self.assertRaises(PowerCut, made.sync)
        self.assertRaises(NotOpen, made.sync)
        made = House(disk)
        self.check(made, 1, 1)
        disk.schedule_cut(0, [32])
        self.assertRaises(PowerCut, made.commit, aged(2))
        made = House(disk)
        self.check(made, 1, 1)
        made.commit(aged(2))
        disk.schedule_cut(5, [0])
        self.assertRaises(PowerCut, made.compact)
        made = House(disk)
        self.check(made, 1, 1)
        made.commit(aged(2))
        # The last thing that a compaction does is to flush the head, which may be stored all the same.
        for torn, base in (([0], 0), ([31], 2)):
            disk.schedule_cut(21, torn)
            self.assertRaises(PowerCut, made.compact)
            made = House(disk)
            self.check(made, 2, 2, base)
        disk.schedule_cut(22, [])
        made.compact()
        self.assertRaises(PowerCut, made.sync)

    def test_lists_are_not_kept(self):
        disk, made = self.opened()
        reads, changes = [AGE, ABOVE, AGE], aged(1)
        found = made.answer(reads)
        self.exactly(reads, [AGE, ABOVE, AGE])
        found.append(7)
        found[0] = 8
        self.exactly(len(made.answer(reads)), 2)
        made.commit(changes)
        changes[0] = ("drop", "user:bob")
        made.sync()
        self.exactly(made.answer([AGE]), [(AGE, told(1), 1, 1)])


if __name__ == "__main__":
    unittest.main()
