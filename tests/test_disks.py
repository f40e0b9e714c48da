import itertools
import unittest

from farfacts import disks
from farfacts.disks import Disk
from farfacts.errors import PowerCut
from helpers import Case
from worlds import World

ZEROS = [0] * 32


def full(byte):
    return [byte] * 32


RISING = list(range(100, 132))
BAD_BLOCKS = ([], [0] * 31, [0] * 33, [-1] + [0] * 31, [0] * 31 + [256], [0] * 15 + [1000] + [0] * 16, [-5] * 32)
BAD_TORN = ([-1], [33], [0, 0, 40], [32, -1, 0], [1000])


class DiskTest(Case):
    def contents(self, disk):
        return [disk.read(at) for at in range(disk.size())]

    def state(self, disk):
        return (self.contents(disk), disk.pending_count(), disk.cut_count())

    def test_sizes(self):
        self.exactly((disks.BLOCK, disks.BLOCKS_MOST), (32, 400))
        for blocks in (8, 9, 399, 400):
            disk = Disk(blocks)
            self.exactly(disk.size(), blocks)
            self.exactly(self.state(disk), ([ZEROS] * blocks, 0, 0))
        for blocks in (-8, 0, 1, 7, 401, 1000):
            self.out_of_range("blocks", Disk, blocks)

    def test_places(self):
        disk = Disk(8)
        for at in (-1, -8, 8, 9, 400):
            self.out_of_range("at", disk.read, at)
            self.out_of_range("at", disk.write, at, ZEROS)
            # The place comes before the block.
            self.out_of_range("at", disk.write, at, [])
        for block in BAD_BLOCKS:
            self.out_of_range("block", disk.write, 7, block)
        self.exactly(self.state(disk), ([ZEROS] * 8, 0, 0))
        for at in (0, 7):
            for block in (ZEROS, full(255), RISING):
                self.exactly(disk.write(at, block), None)
                self.exactly(disk.read(at), block)

    def test_waiting_writes(self):
        disk = Disk(8)
        disk.write(3, full(1))
        disk.write(5, full(2))
        disk.write(3, full(3))
        self.exactly(disk.pending_count(), 3)
        wanted = [ZEROS, ZEROS, ZEROS, full(3), ZEROS, full(2), ZEROS, ZEROS]
        self.exactly(self.contents(disk), wanted)
        self.exactly(disk.flush(), None)
        self.exactly(self.state(disk), (wanted, 0, 0))
        disk.write(3, full(4))
        disk.write(3, ZEROS)
        self.exactly(disk.read(3), ZEROS)
        # What was flushed stays behind a cut, what was not is lost.
        disk.cut_power([])
        self.exactly(self.state(disk), (wanted, 0, 1))
        disk.flush()
        self.exactly(self.state(disk), (wanted, 0, 1))

    def test_the_flush_is_in_order(self):
        for row in itertools.permutations(range(1, 5)):
            disk = Disk(8)
            for byte in row:
                disk.write(2, full(byte))
            self.exactly((disk.read(2), disk.pending_count()), (full(row[-1]), 4))
            disk.flush()
            self.exactly(disk.read(2), full(row[-1]))

    def test_cut(self):
        # Bytes that are stored of two writes, over blocks that are full of ones.
        for torn, first, second in (
                ([], 0, 0), ([0], 0, 0), ([1], 1, 0), ([32], 32, 0), ([31, 5], 31, 5), ([0, 32], 0, 32), ([32, 32], 32, 32),
                ([7, 9, 32, 32, 1], 7, 9)):
            disk = Disk(8)
            disk.write(4, full(1))
            disk.write(6, full(1))
            disk.flush()
            disk.write(4, RISING)
            disk.write(6, full(9))
            self.exactly(disk.cut_power(torn), None)
            self.exactly(disk.read(4), RISING[:first] + [1] * (32 - first))
            self.exactly(disk.read(6), [9] * second + [1] * (32 - second))
            self.exactly((disk.pending_count(), disk.cut_count()), (0, 1))
            disk.flush()
            self.exactly(disk.read(4), RISING[:first] + [1] * (32 - first))

    def test_cut_of_several_writes_of_a_block(self):
        for one, two, three in itertools.product((0, 3, 20, 32), repeat=3):
            disk = Disk(8)
            for byte in (1, 2, 3):
                disk.write(0, full(byte))
            disk.cut_power([one, two, three])
            wanted = list(ZEROS)
            for byte, many in ((1, one), (2, two), (3, three)):
                wanted[:many] = [byte] * many
            self.exactly(disk.read(0), wanted)

    def test_cut_without_writes(self):
        disk = Disk(8)
        disk.write(1, RISING)
        disk.flush()
        before = self.contents(disk)
        for many in range(1, 4):
            disk.cut_power([0, 32, 5])
            self.exactly(self.state(disk), (before, 0, many))

    def test_bad_cuts(self):
        disk = Disk(8)
        disk.write(1, RISING)
        before = self.state(disk)
        for torn in BAD_TORN:
            self.out_of_range("torn", disk.cut_power, torn)
            for many in (0, 1, 100000):
                self.out_of_range("torn", disk.schedule_cut, many, torn)
            for many in (-1, 100001, -100000):
                self.out_of_range("many", disk.schedule_cut, many, torn)
        for many in (-1, 100001, 1000000):
            self.out_of_range("many", disk.schedule_cut, many, [])
        self.exactly(self.state(disk), before)
        # Nothing was scheduled, either.
        for _ in range(5):
            disk.flush()
        self.exactly(disk.cut_count(), 0)

    def test_bad_arguments_leave_a_schedule(self):
        disk = Disk(8)
        disk.schedule_cut(0, [])
        for torn in BAD_TORN:
            self.out_of_range("torn", disk.cut_power, torn)
            self.out_of_range("torn", disk.schedule_cut, 5, torn)
        self.out_of_range("many", disk.schedule_cut, -1, [])
        self.assertRaises(PowerCut, disk.flush)
        self.exactly(disk.cut_count(), 1)

    def test_schedule(self):
        for many in range(0, 7):
            for steps in itertools.product(("write", "flush"), repeat=many + 1):
                disk, waiting = Disk(8), 0
                self.exactly(disk.schedule_cut(many, [5, 32]), None)
                for step in steps[:-1]:
                    if step == "write":
                        disk.write(waiting, full(7))
                    else:
                        disk.flush()
                    waiting = waiting + 1 if step == "write" else 0
                    self.exactly((disk.pending_count(), disk.cut_count()), (waiting, 0))
                flushed = self.contents(disk)
                with self.assertRaises(PowerCut):
                    disk.write(7, full(8)) if steps[-1] == "write" else disk.flush()
                self.exactly((disk.pending_count(), disk.cut_count()), (0, 1))
                # What was to be done at last is not done at all.
                self.exactly(disk.read(7), ZEROS)
                for at in range(2, 7):
                    self.assertIn(disk.read(at), (flushed[at], ZEROS))

    def test_schedule_tears(self):
        disk = Disk(8)
        disk.write(1, full(1))
        disk.schedule_cut(1, [3, 31, 32])
        disk.write(2, full(2))
        with self.assertRaises(PowerCut):
            disk.write(3, full(3))
        self.exactly(self.state(disk), ([ZEROS, [1] * 3 + [0] * 29, [2] * 31 + [0]] + [ZEROS] * 5, 0, 1))
        disk.write(3, full(3))
        disk.flush()
        self.exactly((disk.read(3), disk.cut_count()), (full(3), 1))

    def test_schedule_of_a_flush(self):
        disk = Disk(8)
        disk.schedule_cut(2, [32, 1])
        disk.write(1, full(1))
        disk.write(2, full(2))
        self.assertRaises(PowerCut, disk.flush)
        self.exactly(self.state(disk), ([ZEROS, full(1), [2] + [0] * 31] + [ZEROS] * 5, 0, 1))

    def test_scheduling_again(self):
        disk = Disk(8)
        disk.schedule_cut(0, [32])
        disk.schedule_cut(2, [1])
        disk.write(1, full(1))
        disk.write(1, full(2))
        self.assertRaises(PowerCut, disk.flush)
        self.exactly(disk.read(1), [1] + [0] * 31)
        disk.schedule_cut(5, [])
        disk.flush()
        disk.schedule_cut(0, [])
        self.assertRaises(PowerCut, disk.flush)
        self.exactly(disk.cut_count(), 2)

    def test_a_cut_ends_a_schedule(self):
        disk = Disk(8)
        disk.schedule_cut(0, [32])
        disk.cut_power([])
        for _ in range(4):
            disk.flush()
        disk.schedule_cut(1, [32])
        disk.flush()
        self.assertRaises(PowerCut, disk.flush)
        for _ in range(4):
            disk.write(0, RISING)
            disk.flush()
        self.exactly(disk.cut_count(), 2)

    def test_what_does_not_count(self):
        disk = Disk(8)
        disk.schedule_cut(1, [])
        for _ in range(3):
            self.out_of_range("at", disk.write, 8, ZEROS)
            self.out_of_range("block", disk.write, 0, [])
            disk.read(0)
            self.out_of_range("at", disk.read, -1)
        disk.write(0, RISING)
        self.out_of_range("at", disk.write, -1, ZEROS)
        self.out_of_range("block", disk.write, 0, [256] * 32)
        self.exactly((disk.read(0), disk.pending_count(), disk.cut_count()), (RISING, 1, 0))
        self.assertRaises(PowerCut, disk.flush)

    def test_a_long_schedule(self):
        disk = Disk(8)
        disk.schedule_cut(100000, [])
        for _ in range(100000):
            disk.flush()
        self.assertRaises(PowerCut, disk.flush)

    def test_lists_are_not_kept(self):
        disk, block, torn = Disk(8), list(RISING), [5]
        disk.write(1, block)
        disk.schedule_cut(1, torn)
        self.exactly((block, torn), (RISING, [5]))
        block[0] = 7
        torn[0] = 32
        given = disk.read(1)
        self.exactly(given, RISING)
        given[1] = 7
        self.exactly(disk.read(1), RISING)
        disk.flush()
        block[2] = 8
        self.exactly(disk.read(1), RISING)
        disk.read(1)[3] = 8
        disk.read(2)[3] = 8
        self.exactly((disk.read(1), disk.read(2)), (RISING, ZEROS))
        self.exactly(torn, [32])
        with self.assertRaises(PowerCut):
            disk.write(2, full(1))
        disk.write(2, full(1))
        disk.schedule_cut(0, torn)
        torn[0] = 0
        self.assertRaises(PowerCut, disk.flush)
        self.exactly(disk.read(2), full(1))

    def test_against_a_table(self):
        world = World(55)
        for _ in range(60):
            disk, blocks, waiting, cuts = Disk(8), [list(ZEROS) for _ in range(8)], [], 0
            for _ in range(40):
                step = world.one(("write", "write", "write", "flush", "cut"))
                if step == "write":
                    at, block = world.random.randrange(8), [world.random.randrange(256) for _ in range(32)]
                    disk.write(at, block)
                    waiting.append((at, block))
                    continue
                torn = [32] * len(waiting)
                if step == "flush":
                    disk.flush()
                else:
                    torn = [world.random.randrange(33) for _ in range(world.random.randrange(6))]
                    disk.cut_power(torn)
                    cuts += 1
                for (at, block), many in zip(waiting, torn):
                    blocks[at] = block[:many] + blocks[at][many:]
                waiting = []
                self.exactly(self.state(disk), (blocks, 0, cuts))


if __name__ == "__main__":
    unittest.main()
