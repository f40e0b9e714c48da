import itertools
import unittest

from farfacts.blocks import encode_head, encode_record
from farfacts.databases import Database
from farfacts.disks import Disk
from farfacts.errors import HistoryFull, HouseFull, NotKept, NotOpen, PowerCut
from farfacts.history import History
from farfacts.keeper import Keeper, area_size, area_start, format_disk, newest_head, open_disk
from farfacts.writing import write_changes
from helpers import Case, entity, items, number, text, truth
from worlds import World

ZEROS = [0] * 32
MARKED = [5] * 32
START = [
    ("user:bob", (("age", number(0)), ("boss", entity("user:ann")), ("tags", items(truth(False), number(-7), text("a b")))),
     ("group:a", "group:b")),
    ("group:a", (), ()),
    ("doc:plan", (), ("doc:plan",)),
]
# The texts of the entities, in rising order of uids.
TEXTS = (
    "(make doc:plan doc:plan)\n", "(make group:a)\n",
    '(make user:bob group:a group:b)\n(set user:bob age 0)\n(set user:bob boss @user:ann)\n'
    '(set user:bob tags (set no -7 "a b"))\n',
)
AGE, ABOVE = ("attribute", "user:bob", "age"), ("ancestors", "user:bob")


def aged(many):
    return [("set", "user:bob", "age", number(many))]


def long_changes(many):
    """A transaction whose record has 8 blocks and more."""
    return [("set", "user:bob", "n" + str(n), text("x" * 39 + str(many % 10))) for n in range(3)]


def plain(many):
    return Database([("e:" + str(100 + n), (), ()) for n in range(many)])


def snapshot(texts):
    rows = []
    for place, one in enumerate(texts):
        rows.extend(encode_record(83, place, one))
    return rows


def log(version, changes):
    return encode_record(77, version, write_changes(changes))


def contents(disk):
    return [disk.read(at) for at in range(disk.size())]


def disk_of(blocks, rows):
    """A disk that has these blocks at these places."""
    disk = Disk(blocks)
    for at, block in rows:
        disk.write(at, block)
    disk.flush()
    return disk


def kept(blocks, rows, head=(0, 0, 3)):
    """A disk with these blocks in the area of the head, the snapshot of START before them, and marked blocks elsewhere."""
    area, size = head[0] % 2, (blocks - 2) // 2
    start = 2 + area * size
    table = {at: MARKED for at in range(2, blocks) if not start <= at < start + size}
    table[head[0] % 2] = encode_head(*head)
    for at, block in enumerate(snapshot(TEXTS) + rows):
        table[start + at] = block
    return disk_of(blocks, list(table.items()))


def states(keeper):
    """All databases of the keeper."""
    return [keeper.database(version).entities() for version in range(keeper.base(), keeper.newest() + 1)]


def area_of(disk, area):
    start = area_start(disk, area)
    return contents(disk)[start:start + area_size(disk)]


class AreaTest(Case):
    def test_sizes(self):
        for blocks, size in ((8, 3), (9, 3), (10, 4), (11, 4), (99, 48), (100, 49), (399, 198), (400, 199)):
            disk = Disk(blocks)
            self.exactly((area_size(disk), area_start(disk, 0), area_start(disk, 1)), (size, 2, 2 + size))
            self.assertLessEqual(2 + 2 * size, blocks)


class FormatTest(Case):
    def check(self, blocks, base, texts):
        disk = disk_of(blocks, [(at, MARKED) for at in range(blocks)])
        before = base.entities()
        self.exactly(format_disk(disk, base), None)
        size = (blocks - 2) // 2
        rows = snapshot(texts)
        wanted = [encode_head(0, 0, len(texts)), encode_head(255, 0, len(texts))]
        wanted += rows + [ZEROS] * (size - len(rows)) + [MARKED] * (blocks - 2 - size)
        self.exactly(contents(disk), wanted)
        self.exactly((disk.pending_count(), disk.cut_count()), (0, 0))
        self.exactly(base.entities(), before)
        self.exactly(newest_head(disk), (0, 0, len(texts)))
        keeper = open_disk(disk)
        self.exactly((keeper.base(), keeper.newest(), states(keeper)), (0, 0, [before]))
        self.exactly(keeper.free_blocks(), size - len(rows))
        self.exactly(contents(disk), wanted)

    def test_blocks(self):
        for blocks in (30, 31, 100, 399, 400):
            self.check(blocks, Database(START), TEXTS)
        for blocks in (8, 9, 400):
            self.check(blocks, Database([]), ())
            self.check(blocks, Database(START[1:]), TEXTS[:2])

    def test_great_entities(self):
        world = World(60)
        for _ in range(30):
            base = world.database()
            texts = []
            for uid, attributes, parents in base.entities():
                texts.append(write_changes([("make", uid, parents)] + [("set", uid) + pair for pair in attributes]))
            if len(snapshot(texts)) <= 199:
                self.check(400, base, texts)
        eight = tuple(("n" + str(n), items(*[text("x" * 39 + sign) for sign in "abcdefgh"])) for n in range(8))
        parents = tuple("abcdefghijk" + sign + ":" + "z" * 12 for sign in "abcdef")
        base = Database([("abcdefghijkl:abcdefghijkl", eight, parents)])
        keeper = self.opened(400, base)
        self.exactly(states(keeper), [base.entities()])

    def opened(self, blocks, base):
        disk = Disk(blocks)
        format_disk(disk, base)
        return open_disk(disk)

    def test_full(self):
        for blocks, many in ((8, 3), (9, 3), (10, 4), (50, 24)):
            self.exactly(self.opened(blocks, plain(many)).free_blocks(), 0)
            disk = disk_of(blocks, [(at, MARKED) for at in range(blocks)])
            disk.schedule_cut(0, [32])
            with self.assertRaises(HouseFull):
                format_disk(disk, plain(many + 1))
            self.exactly((contents(disk), disk.pending_count(), disk.cut_count()), ([MARKED] * blocks, 0, 0))
            # Not even a flush was made, so that the schedule is as it was.
            self.assertRaises(PowerCut, disk.flush)

    def test_writes_and_flushes(self):
        for blocks in (30, 31):
            size = (blocks - 2) // 2
            for many in range(size + 4):
                disk = Disk(blocks)
                disk.schedule_cut(many, [32] * 40)
                self.assertRaises(PowerCut, format_disk, disk, Database(START))
                rows = (snapshot(TEXTS) + [ZEROS] * size)[:min(many, size)]
                rows += [ZEROS] * (blocks - 2 - len(rows))
                heads = [encode_head(0, 0, 3), encode_head(255, 0, 3)][:max(0, many - size - 1)]
                self.exactly(contents(disk), heads + [ZEROS] * (2 - len(heads)) + rows)
            disk = Disk(blocks)
            disk.schedule_cut(size + 4, [])
            format_disk(disk, Database(START))
            self.assertRaises(PowerCut, disk.flush)

    def test_formatting_again(self):
        disk = Disk(60)
        format_disk(disk, Database(START))
        keeper = open_disk(disk)
        keeper.append(aged(1))
        keeper.compact()
        format_disk(disk, plain(2))
        keeper = open_disk(disk)
        self.exactly((keeper.base(), states(keeper)), (0, [plain(2).entities()]))


class HeadTest(Case):
    def test_none_and_one(self):
        self.assertIsNone(newest_head(Disk(8)))
        self.assertIsNone(newest_head(disk_of(8, [(0, MARKED), (1, encode_record(77, 0, "")[0])])))
        for generation in (0, 1, 2, 255):
            head = (generation, 300, 7)
            for place in (0, 1):
                self.exactly(newest_head(disk_of(8, [(place, encode_head(*head))])), head)
                self.exactly(newest_head(disk_of(8, [(place, encode_head(*head)), (1 - place, MARKED)])), head)

    def test_two(self):
        for one, two, place in ((0, 255, 0), (255, 0, 1), (0, 1, 1), (1, 0, 0), (254, 255, 1), (255, 254, 0), (7, 8, 1),
                                (8, 7, 0), (0, 0, 0), (0, 2, 0), (2, 0, 0), (3, 9, 0), (9, 3, 0), (255, 1, 0), (1, 255, 0),
                                (254, 0, 0), (0, 254, 0), (128, 0, 0)):
            heads = ((one, 5, 1), (two, 70000, 2))
            disk = disk_of(8, [(0, encode_head(*heads[0])), (1, encode_head(*heads[1]))])
            self.exactly(newest_head(disk), heads[place])

    def test_waiting_writes_count(self):
        disk = Disk(8)
        disk.write(1, encode_head(7, 1, 2))
        self.exactly((newest_head(disk), disk.pending_count()), ((7, 1, 2), 1))


class OpenTest(Case):
    def check(self, disk, versions, base=0, area=0):
        """What is opened has these transactions behind START; all behind them is zeros, all else as it was."""
        before = contents(disk)
        keeper = open_disk(disk)
        self.assertIs(type(keeper), Keeper)
        history = History(Database(START), base)
        used = len(snapshot(TEXTS))
        for changes, many in versions:
            history.commit(changes)
            used += many
        self.exactly((keeper.base(), keeper.newest()), (base, history.newest()))
        self.exactly(states(keeper), [history.database(version).entities() for version in range(base, history.newest() + 1)])
        self.exactly(keeper.free_blocks(), area_size(disk) - used)
        start = area_start(disk, area)
        for at in range(start + used, start + area_size(disk)):
            before[at] = ZEROS
        self.exactly((contents(disk), disk.pending_count()), (before, 0))
        again = open_disk(disk)
        self.exactly((again.base(), states(again), again.free_blocks()), (base, states(keeper), keeper.free_blocks()))
        self.exactly(contents(disk), before)
        return keeper

    def with_sizes(self, *transactions):
        return [(changes, len(log(0, changes))) for changes in transactions]

    def test_snapshot_alone(self):
        for generation in (0, 1, 2, 3, 254, 255):
            for base in (0, 7, 65535, 90000):
                for rows in ([], [MARKED] * 3, [ZEROS, MARKED]):
                    self.check(kept(50, rows, (generation, base, 3)), [], base, generation % 2)

    def test_log(self):
        rows = (aged(1), [("make", "user:cid", ()), ("drop", "group:a")], long_changes(1), aged(5))
        for base in (0, 300, 65532, 65534, 65535, 65536, 90000):
            for generation in (0, 1):
                blocks = []
                for many in range(5):
                    disk = kept(90, blocks, (generation, base, 3))
                    self.check(disk, self.with_sizes(*rows[:many]), base, generation)
                    disk = kept(90, blocks + [MARKED] * 4, (generation, base, 3))
                    self.check(disk, self.with_sizes(*rows[:many]), base, generation)
                    if many < 4:
                        blocks = blocks + log(base + many + 1, rows[many])

    def test_a_log_that_ends_with_the_area(self):
        free, size = 24 - len(snapshot(TEXTS)), len(log(1, long_changes(1)))
        # Each transaction has one block, but the last one, which ends where the area does, or would end behind it.
        for room in (size, size - 1, 1):
            many = free - room
            rows = [log(version, aged(1))[0] for version in range(1, many + 1)]
            disk = kept(50, rows + log(many + 1, long_changes(1))[:room])
            last = [long_changes(1)] if room == size else []
            self.check(disk, self.with_sizes(*[aged(1)] * many + last))

    def test_records_that_are_none(self):
        first = log(1, aged(1))
        good = log(2, long_changes(0))
        last = log(3, aged(3))
        wrong = [[], [ZEROS], [MARKED], good[:-1], good[1:], list(reversed(good)), good[:2] + good[3:],
                 log(1, long_changes(0)), log(3, long_changes(0)), log(2 + 256, long_changes(0)), log(0, long_changes(0)),
                 encode_record(83, 2, write_changes(long_changes(0)))]
        for at, place in itertools.product(range(len(good)), (0, 1, 2, 3, 4, 5, 6, 29, 30, 31)):
            row = [list(block) for block in good]
            row[at][place] = (row[at][place] + 128) % 256
            wrong.append(row)
        for at in range(len(good)):
            wrong.append(good[:at] + [ZEROS] + good[at + 1:])
            wrong.append(good[:at] + [good[at][:31] + [0]] + good[at + 1:])
            wrong.append(good[:at] + [[0] + good[at][1:]] + good[at + 1:])
        for row in wrong:
            self.check(kept(80, first + row + last), self.with_sizes(aged(1)))
        self.check(kept(80, first + good + last), self.with_sizes(aged(1), long_changes(0), aged(3)))

    def test_texts_that_cannot_be_read_or_made(self):
        first, last = log(1, aged(1)), log(3, aged(3))
        nine = write_changes(aged(1) * 9)
        for one in ("", "\n", "make", "(make user:bob", "(make user:cid)(", "(make user:cid) x", '(set user:bob age "x)',
                    "(set user:bob age 1000001)", "(set user:Bob age 1)", "# nothing", "(make user:bob)", "(drop user:cid)",
                    "(make user:cid)\n(clear user:cid age)\n", "(clear user:bob name)", nine,
                    "(make user:cid a:1 a:2 a:3 a:4 a:5 a:6 a:7)"):
            self.check(kept(80, first + encode_record(77, 2, one) + last), self.with_sizes(aged(1)))
        # A text that is written in another way is a transaction, too.
        other = " (set user:bob\n age 2 )# so it is"
        keeper = self.check(kept(80, first + encode_record(77, 2, other) + last),
                            [(aged(1), len(first)), (aged(2), 2), (aged(3), len(last))])
        self.exactly(keeper.fact(AGE, 2, 2), (AGE, ("value", number(2)), 2, 2))

    def test_as_many_transactions_as_there_is_room_for(self):
        rows = [encode_record(83, 0, "(make a:b)\n")[0]]
        rows += [encode_record(77, version, "(set a:b n " + str(version) + ")")[0] for version in range(1, 199)]
        keeper = open_disk(disk_of(400, [(0, encode_head(0, 0, 1))] + list(enumerate(rows, 2))))
        self.exactly((keeper.newest(), keeper.free_blocks()), (198, 0))
        self.exactly(keeper.fact(("attribute", "a:b", "n"), 198, 198)[1], ("value", number(198)))
        rows = [encode_record(77, version, "(make a:b)" if version % 2 else "(drop a:b)")[0] for version in range(1, 200)]
        keeper = open_disk(disk_of(400, [(0, encode_head(0, 0, 0))] + list(enumerate(rows, 2))))
        self.exactly((keeper.newest(), keeper.free_blocks()), (199, 0))
        self.exactly(keeper.database(199).entities(), [("a:b", (), ())])

    def test_not_more_than_200(self):
        rows = [encode_record(77, version, "(make a:b)" if version % 2 else "(drop a:b)")[0] for version in range(1, 204)]
        table = [encode_head(0, 0, 0), ZEROS] + rows + [MARKED] * (2 * 205 - 203)

        class Great(Disk):
            """A disk that is greater than disks are: no area of a disk has room for 200 transactions and more."""

            def __init__(self):
                super().__init__(400)
                self._blocks = [list(block) for block in table]

        disk = Great()
        self.exactly(area_size(disk), 205)
        keeper = open_disk(disk)
        self.exactly((keeper.newest(), keeper.free_blocks()), (200, 5))
        self.exactly(contents(disk), table[:202] + [ZEROS] * 5 + [MARKED] * 205)
        with self.assertRaises(HistoryFull):
            keeper.append([("make", "a:b", ())])
        self.out_of_range("changes", keeper.append, [])
        self.refused(0, "no such entity", keeper.append, [("drop", "a:b")])
        keeper.compact()
        self.exactly(keeper.append([("make", "a:b", ())]), 201)

    def test_no_head(self):
        for rows in ([], [(0, MARKED)], [(0, encode_head(0, 0, 0)[:31] + [0])], [(2, encode_head(0, 0, 0))]):
            disk = disk_of(30, rows + [(20, MARKED)])
            before = contents(disk)
            disk.schedule_cut(0, [])
            self.assertRaises(NotKept, open_disk, disk)
            self.exactly((contents(disk), disk.pending_count(), disk.cut_count()), (before, 0, 0))

    def check_not_kept(self, rows, head=(0, 0, 3)):
        disk = disk_of(50, [(0, encode_head(*head))] + list(enumerate(rows, 2)) + [(49, MARKED)])
        before = contents(disk)
        disk.schedule_cut(0, [])
        with self.assertRaises(NotKept):
            open_disk(disk)
        # Nothing is written, nor flushed.
        self.exactly((contents(disk), disk.pending_count(), disk.cut_count()), (before, 0, 0))

    def test_snapshots_that_are_not_whole(self):
        right = snapshot(TEXTS)
        for at in range(len(right)):
            self.check_not_kept(right[:at])
            for block in (ZEROS, MARKED, right[at][:31] + [0], [77] + right[at][1:31] + [77], right[at - 1]):
                self.check_not_kept(right[:at] + [block] + right[at + 1:])
            self.check_not_kept(right[:at] + right[at + 1:])
            for place in (1, 2, 3, 4):
                wrong = [list(block) for block in right]
                wrong[at][place] += 1
                self.check_not_kept(wrong)
        for many in (4, 5, 40, 41, 255):
            self.check_not_kept(right, (0, 0, many))
        self.check_not_kept(right + log(1, aged(1)), (0, 0, 4))
        # No history begins at such a base.
        for base in (90001, 100000, 16777215):
            self.check_not_kept(right, (0, base, 3))
        # The area of the other generation is not looked at.
        self.check_not_kept(right, (1, 0, 3))

    def test_texts_of_entities(self):
        for texts in ((TEXTS[1], TEXTS[0], TEXTS[2]), (TEXTS[0], TEXTS[0], TEXTS[2]), ("", TEXTS[1], TEXTS[2]),
                      (TEXTS[0], "(drop group:a)\n", TEXTS[2]), (TEXTS[0], "(make group:a", TEXTS[2]),
                      (TEXTS[0], "(make group:a)\n(set user:bob age 1)\n", TEXTS[2]),
                      (TEXTS[0], "(set group:a age 1)\n", TEXTS[2]), (TEXTS[0], "(make group:a)\n(make group:b)\n", TEXTS[2]),
                      (TEXTS[0], "(make group:a)\n(clear group:a age)\n", TEXTS[2])):
            self.check_not_kept(snapshot(texts))

    def test_cuts_while_opening(self):
        rows = log(1, aged(1)) + [MARKED] * 3 + log(2, aged(2))
        free = 24 - len(snapshot(TEXTS)) - len(log(1, aged(1)))
        for many in range(free + 1):
            for torn in ([], [32] * 30, [0, 32] * 15, [1] * 30, [31] * 30, [17, 0, 32]):
                disk = kept(50, rows)
                disk.schedule_cut(many, torn)
                self.assertRaises(PowerCut, open_disk, disk)
                self.exactly((disk.pending_count(), disk.cut_count()), (0, 1))
                self.check(disk, self.with_sizes(aged(1)))
        disk = kept(50, rows)
        disk.schedule_cut(free + 1, [])
        open_disk(disk)
        self.assertRaises(PowerCut, disk.flush)

    def test_waiting_writes_are_flushed(self):
        disk = kept(50, [])
        for at, block in enumerate(log(1, aged(1)), 2 + len(snapshot(TEXTS))):
            disk.write(at, block)
        keeper = open_disk(disk)
        self.exactly((keeper.newest(), disk.pending_count()), (1, 0))
        disk.cut_power([])
        self.exactly(open_disk(disk).newest(), 1)


class KeeperTest(Case):
    def opened(self, blocks=80):
        disk = Disk(blocks)
        format_disk(disk, Database(START))
        return disk, open_disk(disk)

    def test_append(self):
        disk, keeper = self.opened()
        rows, history, start = [], History(Database(START), 0), 2 + len(snapshot(TEXTS))
        free = 39 - len(snapshot(TEXTS))
        for at, changes in enumerate((aged(1), long_changes(2), [("drop", "user:bob")], [("make", "user:bob", ())])):
            before = list(changes)
            rows += log(at + 1, changes)
            history.commit(changes)
            self.exactly(keeper.append(changes), at + 1)
            self.exactly(changes, before)
            self.exactly((keeper.base(), keeper.newest(), keeper.free_blocks()), (0, at + 1, free - len(rows)))
            self.exactly(contents(disk)[start:], rows + [ZEROS] * (80 - start - len(rows)))
            self.exactly(disk.pending_count(), len(rows))
        self.exactly(states(keeper), [history.database(version).entities() for version in range(5)])
        self.exactly(keeper.sync(), None)
        self.exactly(disk.pending_count(), 0)
        self.exactly(states(open_disk(disk)), states(keeper))

    def test_append_that_is_refused(self):
        disk, keeper = self.opened()
        keeper.append(aged(1))
        before = (contents(disk), disk.pending_count(), keeper.newest(), states(keeper), keeper.free_blocks())
        for changes in ([], aged(1) * 9, aged(1000001), [("drop", "bob")]):
            self.out_of_range("changes", keeper.append, changes)
        for place, words, changes in ((0, "entity exists", [("make", "group:a", ())]),
                                      (1, "no such attribute", aged(1) + [("clear", "user:bob", "name")])):
            self.refused(place, words, keeper.append, changes)
        self.exactly((contents(disk), disk.pending_count(), keeper.newest(), states(keeper), keeper.free_blocks()), before)

    def test_no_room(self):
        disk, keeper = self.opened(2 + 2 * 20)
        size = len(log(1, long_changes(1)))
        while keeper.free_blocks() >= size:
            keeper.append(long_changes(keeper.newest()))
        before = (contents(disk), disk.pending_count(), keeper.newest(), states(keeper), keeper.free_blocks())
        with self.assertRaises(HouseFull):
            keeper.append(long_changes(1))
        # A transaction that is refused is refused first.
        self.out_of_range("changes", keeper.append, long_changes(1) * 4)
        self.refused(3, "no such entity", keeper.append, long_changes(1) + [("drop", "user:cid")])
        self.exactly((contents(disk), disk.pending_count(), keeper.newest(), states(keeper), keeper.free_blocks()), before)
        for _ in range(keeper.free_blocks()):
            keeper.append(aged(1))
        self.exactly(keeper.free_blocks(), 0)
        self.assertRaises(HouseFull, keeper.append, aged(1))
        keeper.sync()
        self.exactly(states(open_disk(disk)), states(keeper))

    def test_full_history(self):
        disk = Disk(400)
        format_disk(disk, Database([]))
        keeper = open_disk(disk)
        for version in range(1, 200):
            self.exactly(keeper.append([("make", "a:b", ())] if version % 2 else [("drop", "a:b")]), version)
        self.exactly(keeper.free_blocks(), 0)
        self.assertRaises(HouseFull, keeper.append, [("drop", "a:b")])

    def test_compact(self):
        for blocks in (80, 81):
            disk, keeper = self.opened(blocks)
            generation = 0
            for turn in range(5):
                keeper.append(long_changes(turn))
                keeper.append(aged(turn))
                newest, base = keeper.newest(), keeper.database(keeper.newest())
                before = contents(disk)
                self.exactly(keeper.compact(), None)
                generation += 1
                self.exactly(newest, 2 * turn + 2)
                self.exactly((keeper.base(), keeper.newest(), states(keeper)), (newest, newest, [base.entities()]))
                self.exactly(newest_head(disk), (generation, newest, 3))
                self.exactly(contents(disk)[generation % 2], encode_head(generation, newest, 3))
                self.exactly(contents(disk)[1 - generation % 2], before[1 - generation % 2])
                texts = [write_changes([("make", uid, parents)] + [("set", uid) + pair for pair in pairs])
                         for uid, pairs, parents in base.entities()]
                rows = snapshot(texts)
                self.exactly(area_of(disk, generation % 2), rows + [ZEROS] * (39 - len(rows)))
                other = area_start(disk, 1 - generation % 2)
                self.exactly(area_of(disk, 1 - generation % 2), before[other:other + 39])
                self.exactly((keeper.free_blocks(), disk.pending_count()), (39 - len(rows), 0))
                self.exactly(states(open_disk(disk)), states(keeper))
                self.exactly(keeper.fact(AGE, newest, newest), (AGE, ("value", number(turn)), newest, newest))

    def test_compact_again_and_again(self):
        disk, keeper = self.opened()
        for turn in range(1, 300):
            keeper.compact()
            self.exactly(newest_head(disk), (turn % 256, 0, 3))
        keeper.append(aged(1))
        keeper.sync()
        again = open_disk(disk)
        self.exactly((again.base(), again.newest()), (0, 1))

    def test_compact_without_room(self):
        disk = Disk(10)
        format_disk(disk, plain(2))
        keeper = open_disk(disk)
        keeper.append([("make", "a:" + str(n), ()) for n in range(3)])
        before = (contents(disk), disk.pending_count(), keeper.newest(), states(keeper))
        disk.schedule_cut(0, [])
        self.assertRaises(HouseFull, keeper.compact)
        self.exactly((contents(disk), disk.pending_count(), keeper.newest(), states(keeper)), before)
        self.exactly(disk.cut_count(), 0)

    def test_compact_above_the_greatest_base(self):
        for newest in (90000, 90001):
            disk = kept(50, log(newest, aged(1)), (0, newest - 1, 3))
            keeper = open_disk(disk)
            self.exactly((keeper.base(), keeper.newest()), (newest - 1, newest))
            if newest == 90000:
                keeper.compact()
                self.exactly((keeper.base(), open_disk(disk).base()), (90000, 90000))
                keeper.append(aged(2))
            before = (contents(disk), disk.pending_count())
            disk.schedule_cut(0, [])
            self.out_of_range("base", keeper.compact)
            self.exactly((contents(disk), disk.pending_count(), disk.cut_count()), before + (0,))
            self.exactly(keeper.newest(), 90001)

    def test_no_room_comes_before_the_base(self):
        rows = [encode_record(77, 90001, "(make a:a)(make a:b)")[0], encode_record(77, 90002, "(make a:c)(make a:d)")[0]]
        disk = disk_of(8, [(0, encode_head(0, 90000, 0))] + list(enumerate(rows, 2)))
        keeper = open_disk(disk)
        self.exactly(keeper.newest(), 90002)
        self.assertRaises(HouseFull, keeper.compact)

    def test_numbers_beyond_65535(self):
        disk = kept(80, [], (1, 65530, 3))
        keeper = open_disk(disk)
        for version in range(65531, 65541):
            self.exactly(keeper.append([("make", "a:" + str(version), ())]), version)
        keeper.sync()
        again = open_disk(disk)
        self.exactly((again.base(), again.newest(), states(again)), (65530, 65540, states(keeper)))

    def test_history_and_facts(self):
        disk, keeper = self.opened()
        keeper.append(aged(0))
        keeper.append(aged(1))
        self.exactly(keeper.fact(AGE, 0, 2), (AGE, ("value", number(0)), 0, 1))
        self.exactly(keeper.fact(AGE, 0, 0), (AGE, ("value", number(0)), 0, 0))
        self.exactly(keeper.fact(ABOVE, 2, 2), (ABOVE, ("above", ("group:a", "group:b")), 0, 2))
        for version in (-1, 3):
            self.out_of_range("version", keeper.database, version)
            self.out_of_range("version", keeper.fact, AGE, version, 5)
        self.out_of_range("upto", keeper.fact, AGE, 2, 1)
        self.out_of_range("upto", keeper.fact, AGE, 2, 3)
        made = keeper.history()
        self.assertIs(type(made), History)
        self.exactly((made.base(), made.newest()), (0, 2))
        self.exactly([made.database(version).entities() for version in range(3)], states(keeper))
        made.commit(aged(5))
        self.exactly((keeper.newest(), keeper.history().newest()), (2, 2))
        keeper.append(aged(6))
        self.exactly((made.told(AGE, 3), made.newest()), (("value", number(5)), 3))
        keeper.compact()
        self.out_of_range("version", keeper.database, 2)
        self.out_of_range("version", keeper.fact, AGE, 2, 3)
        self.exactly((keeper.history().base(), keeper.history().newest()), (3, 3))

    def test_not_open(self):
        for by in ("cut", "schedule"):
            disk, keeper = self.opened()
            keeper.append(aged(1))
            keeper.sync()
            if by == "cut":
                disk.cut_power([])
            else:
                disk.schedule_cut(0, [])
                self.assertRaises(PowerCut, keeper.append, aged(2))
            again = open_disk(disk)
            before = (contents(disk), disk.pending_count())
            # What is wrong with the arguments comes behind it.
            for call in (lambda: keeper.append(aged(1)), lambda: keeper.append([]), keeper.sync, keeper.compact, keeper.base,
                         keeper.newest, lambda: keeper.database(0), lambda: keeper.database(99),
                         lambda: keeper.fact(AGE, 0, 0), lambda: keeper.fact(AGE, 7, 7), keeper.history, keeper.free_blocks):
                self.assertRaises(NotOpen, call)
            self.exactly((contents(disk), disk.pending_count()), before)
            self.exactly((again.newest(), again.append(aged(2))), (1, 2))


# What a keeper may be told to do, one after another.
SCRIPTS = (
    ("a", "sync", "b", "c", "sync", "a"),
    ("long", "a", "sync", "long", "compact", "b", "sync", "c"),
    ("a", "b", "compact", "compact", "c", "long", "sync", "compact", "a"),
    ("compact", "long", "compact", "long", "compact", "long", "sync"),
)
STEPS = {"a": aged(1), "b": aged(2), "c": [("make", "a:c", ()), ("drop", "a:c")], "long": long_changes(3)}


class CutTest(Case):
    def run_script(self, keeper, script, done):
        """Does the steps; done keeps the databases that were made, how many of them are synced, and the one under way."""
        for step in script:
            if step in STEPS:
                done["next"] = keeper.database(keeper.newest()).changed(STEPS[step])
                keeper.append(STEPS[step])
                done["made"].append(done["next"])
                done["next"] = None
            else:
                keeper.sync() if step == "sync" else keeper.compact()
                done["synced"] = len(done["made"])

    def check_script(self, script, many, torn):
        """Whether the power was cut; what is opened then is a beginning that holds all that was synced."""
        disk = Disk(62)
        format_disk(disk, Database(START))
        keeper = open_disk(disk)
        done = {"made": [Database(START)], "synced": 1, "next": None}
        disk.schedule_cut(many, torn)
        try:
            self.run_script(keeper, script, done)
        except PowerCut:
            pass
        if disk.cut_count() == 0:
            return False
        self.assertRaises(NotOpen, keeper.sync)
        again = open_disk(disk)
        whole = [base.entities() for base in done["made"]]
        if done["next"] is not None:
            whole.append(done["next"].entities())
        found = states(again)
        self.assertGreaterEqual(again.newest() + 1, done["synced"])
        self.exactly(found, whole[again.base():again.newest() + 1])
        self.exactly(disk.pending_count(), 0)
        third = open_disk(disk)
        self.exactly((third.base(), states(third), third.free_blocks()), (again.base(), found, again.free_blocks()))
        # It can be used further.
        third.append(aged(9))
        third.sync()
        self.exactly(states(open_disk(disk)), states(third))
        return True

    def test_cuts(self):
        world = World(63)
        for script in SCRIPTS:
            many, cut = 0, True
            while cut:
                for torn in ([], [32] * 80, [31] * 80, [0, 32] * 40, [32, 0] * 40, [32, 32, 32, 9], [0] + [32] * 80):
                    cut = self.check_script(script, many, torn)
                for _ in range(3):
                    cut = self.check_script(script, many, [world.random.randrange(33) for _ in range(80)])
                many += 1
            self.assertGreater(many, 6)

    def test_cuts_of_waiting_writes(self):
        for script in (("a", "b", "c"), ("a", "sync", "long", "b"), ("compact", "a", "long")):
            for torn in itertools.product((0, 1, 16, 31, 32), repeat=4):
                disk = Disk(62)
                format_disk(disk, Database(START))
                keeper = open_disk(disk)
                done = {"made": [Database(START)], "synced": 1, "next": None}
                self.run_script(keeper, script, done)
                disk.cut_power(list(torn) + [32] * 60)
                again = open_disk(disk)
                self.assertGreaterEqual(again.newest() + 1, done["synced"])
                self.exactly(states(again), [base.entities() for base in done["made"][:again.newest() + 1]])


if __name__ == "__main__":
    unittest.main()
