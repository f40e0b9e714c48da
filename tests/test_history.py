import unittest

from farfacts import history
from farfacts.databases import Database
from farfacts.errors import ChangeRefused, HistoryFull
from farfacts.facts import check_fact
from farfacts.history import History
from helpers import Case, number
from worlds import World

START = [("user:bob", (("age", number(0)),), ("group:a",)), ("group:a", (), ())]
AGE, NAME, ABOVE = ("attribute", "user:bob", "age"), ("attribute", "user:bob", "name"), ("ancestors", "user:bob")
ZERO, ONE, NONE, GONE = ("value", number(0)), ("value", number(1)), ("none",), ("gone",)


def aged(many):
    return [("set", "user:bob", "age", number(many))]


CLEARED = [("clear", "user:bob", "age")]
TOO_MANY = aged(1) * 9


class HistoryTest(Case):
    def full(self, base=0):
        made = History(Database(START), base)
        for version in range(200):
            self.exactly(made.commit(aged(version % 3)), base + version + 1)
        return made

    def test_bounds(self):
        self.exactly((history.VERSIONS_MOST, history.BASE_MOST), (200, 90000))

    def test_base(self):
        for base in (0, 1, 89999, 90000):
            made = History(Database(START), base)
            self.exactly((made.base(), made.newest()), (base, base))
            self.assertTrue(made.database(base).same(Database(START)))
            self.exactly(made.fact(AGE, base, base), (AGE, ZERO, base, base))
        for base in (-1, 90001, 100000, -90000):
            self.out_of_range("base", History, Database(START), base)

    def test_commit(self):
        made = History(Database(START), 5)
        self.exactly(made.commit(aged(1)), 6)
        self.exactly(made.commit([("drop", "user:bob"), ("make", "user:bob", ())]), 7)
        self.exactly(made.commit(aged(0) + [("under", "user:bob", ("group:a",))]), 8)
        self.exactly((made.base(), made.newest()), (5, 8))
        for version, wanted in ((5, START), (6, [("user:bob", (("age", number(1)),), ("group:a",)), START[1]]),
                                (7, [("user:bob", (), ()), START[1]]), (8, START)):
            self.assertIs(type(made.database(version)), Database)
            self.assertTrue(made.database(version).same(Database(wanted)))

    def state(self, made):
        versions = range(made.base(), made.newest() + 1)
        return (made.base(), made.newest(), [made.database(version).entities() for version in versions])

    def test_commits_that_are_refused(self):
        made = History(Database(START), 5)
        made.commit(aged(1))
        before = self.state(made)
        for changes in ([], TOO_MANY, [("set", "bob", "age", number(1))], aged(1) + aged(1000001),
                        [("make", "user:bob", ("b:a", "a:b"))], [("drop", "")]):
            self.out_of_range("changes", made.commit, changes)
        for place, words, changes in (
                (0, "entity exists", [("make", "user:bob", ())]),
                (1, "no such entity", aged(3) + [("drop", "user:cid")]),
                (2, "no such attribute", aged(3) + CLEARED + CLEARED),
                (7, "no such entity", [("set", "group:a", "n", number(n)) for n in range(7)] + [("drop", "user:cid")])):
            self.refused(place, words, made.commit, changes)
        self.exactly(self.state(made), before)
        self.exactly(made.commit(aged(2)), 7)

    def test_full(self):
        for base in (0, 90000):
            made = self.full(base)
            self.exactly((made.base(), made.newest()), (base, base + 200))
            with self.assertRaises(HistoryFull):
                made.commit(aged(1))
            # A history that is full is the last reason.
            self.out_of_range("changes", made.commit, TOO_MANY)
            self.refused(0, "entity exists", made.commit, [("make", "user:bob", ())])
            self.exactly(made.newest(), base + 200)
            self.exactly(made.fact(AGE, base + 200, base + 200), (AGE, ONE, base + 200, base + 200))
            self.exactly(made.fact(ABOVE, base + 7, base + 200), (ABOVE, ("above", ("group:a",)), base, base + 200))
            self.exactly(made.fact(ABOVE, base + 7, base + 9), (ABOVE, ("above", ("group:a",)), base, base + 9))

    def test_out_of_range(self):
        made = History(Database(START), 5)
        made.commit(aged(1))
        made.commit(aged(2))
        for version in (-1, 0, 4, 8, 9, 100000):
            self.out_of_range("version", made.database, version)
            self.out_of_range("version", made.told, AGE, version)
            for upto in (version, 4, 5, 7, 8):
                self.out_of_range("version", made.fact, AGE, version, upto)
        for version, upto in ((5, 4), (5, 8), (6, 5), (7, 6), (7, 8), (5, -1), (6, 100000)):
            self.out_of_range("upto", made.fact, AGE, version, upto)

    def test_facts(self):
        made = History(Database(START), 5)
        # 5: 0, 6: 0, 7: 1, 8: none, 9: none, 10: 1, 11: gone, 12: gone, 13: none, 14: 0
        for changes in (aged(0), aged(1), CLEARED, [("set", "user:bob", "name", number(1))], aged(1), [("drop", "user:bob")],
                        [("make", "user:ann", ())], [("make", "user:bob", ("group:b",))], aged(0)):
            made.commit(changes)
        told = [ZERO, ZERO, ONE, NONE, NONE, ONE, GONE, GONE, NONE, ZERO]
        spans = [(5, 6), (5, 6), (7, 7), (8, 9), (8, 9), (10, 10), (11, 12), (11, 12), (13, 13), (14, 14)]
        self.exactly([made.told(AGE, version) for version in range(5, 15)], told)
        for at, version in enumerate(range(5, 15)):
            for upto in range(version, 15):
                wanted = (AGE, told[at], spans[at][0], min(upto, spans[at][1]))
                self.exactly(made.fact(AGE, version, upto), wanted)
                self.assertIsNone(check_fact(wanted))
        above = ("above", ("group:a",))
        self.exactly(made.fact(ABOVE, 5, 14), (ABOVE, above, 5, 10))
        self.exactly(made.fact(ABOVE, 8, 9), (ABOVE, above, 5, 9))
        self.exactly(made.fact(ABOVE, 12, 14), (ABOVE, ("above", ()), 11, 12))
        self.exactly(made.fact(ABOVE, 14, 14), (ABOVE, ("above", ("group:b",)), 13, 14))
        self.exactly(made.fact(NAME, 9, 14), (NAME, ONE, 9, 10))
        self.exactly(made.fact(NAME, 8, 14), (NAME, NONE, 5, 8))

    def test_against_all_databases(self):
        world = World(54)
        for _ in range(30):
            made = History(world.database(), 3)
            for _ in range(12):
                try:
                    made.commit([("set", world.one(("doc:a", "user:a")), "owner", world.value())])
                except ChangeRefused:
                    made.commit([("make", world.one(("doc:z", "user:z")) + str(made.newest()), ())])
            for read in (("attribute", "doc:a", "owner"), ("attribute", "user:a", "owner"), ("ancestors", "doc:a")):
                told = {version: made.database(version).tell(read) for version in range(3, made.newest() + 1)}
                for version in told:
                    self.exactly(made.told(read, version), told[version])
                    for upto in range(version, made.newest() + 1):
                        _, found, since, last = made.fact(read, version, upto)
                        self.assertTrue(3 <= since <= version <= last <= upto)
                        self.assertEqual([told[at] for at in range(since, last + 1)], [found] * (last - since + 1))
                        self.assertNotEqual(told.get(since - 1), found)
                        self.assertTrue(last == upto or told[last + 1] != found)

    def test_lists_are_not_kept(self):
        made, changes = History(Database(START), 0), aged(1)
        made.commit(changes)
        self.exactly(changes, aged(1))
        changes.append(("drop", "user:bob"))
        changes[0] = ("drop", "group:a")
        self.exactly(made.told(AGE, 1), ONE)
        self.exactly(made.database(1).many(), 2)
        made.database(1).entities().clear()
        self.exactly(made.database(1).many(), 2)


if __name__ == "__main__":
    unittest.main()
