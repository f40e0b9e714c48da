"""The program as a whole: what desks tell while the house changes, loses its power, and letters are lost and late."""

import unittest

from farfacts.deciding import decide
from farfacts.errors import ChangeRefused, HouseFull, NotOpen, OutOfRange, PowerCut
from farfacts.facts import check_fact
from farfacts.link import Link
from farfacts.papers import agrees, judge
from farfacts.policies import can_apply
from farfacts.requests import request_kind
from farfacts.stores import Store
from farfacts.writing import write_book
from helpers import Case
from worlds import ENTITIES, NAMES, UIDS, World

STEPS = ("send",) * 8 + ("renew",) * 6 + ("deliver",) * 24 + ("drop", "duplicate", "duplicate") + ("commit",) * 6
STEPS += ("sync",) * 3 + ("compact", "cut", "schedule", "reopen")


class Run:
    """A link, and what is known of it from outside: every database at a version that was synced."""

    def __init__(self, case, seed):
        self.case = case
        self.world = World(seed)
        self.policies = self.stored(self.world.policies(7))
        self.link = self.made_link()
        self.made = {0: self.link.database(0)}
        self.synced = dict(self.made)
        self.requests = {}
        self.counts = {"told": 0, "papers": 0, "cuts": 0, "compactions": 0, "full": 0}
        for desk in range(self.desks):
            for _ in range(self.world.random.randint(1, 4)):
                request = self.world.request()
                number = self.link.begin(desk, request, self.world.one(("lazy", "batch")))
                self.requests[(desk, number)] = request

    def stored(self, policies):
        """The policies, read by a store from their text."""
        store = Store()
        store.load(write_book(policies))
        return store.policies()

    def made_link(self):
        self.desks = self.world.random.randint(1, 3)
        while True:
            try:
                return Link(self.world.database(), self.policies, self.desks, self.world.one((100, 101, 200, 400)))
            except HouseFull:
                continue

    def changes(self):
        many = self.world.one((1, 1, 2, 3))
        rows = []
        for _ in range(many):
            uid = self.world.one(ENTITIES)
            rows.append(self.world.one((
                ("set", uid, self.world.one(NAMES), self.world.value()), ("set", uid, self.world.one(NAMES), self.world.value()),
                ("clear", uid, self.world.one(NAMES)), ("under", uid, self.world.some(UIDS, 2)), ("drop", uid),
                ("make", uid, self.world.some(UIDS, 2)))))
        return rows

    def step(self):
        kind = self.world.one(STEPS)
        try:
            self.do(kind)
        except ChangeRefused:
            pass
        except HouseFull:
            self.counts["full"] += 1
            self.empty_area()
        except (PowerCut, NotOpen):
            self.counts["cuts"] += 1
            self.case.assertFalse(self.link.is_open())
        if kind == "reopen" or self.world.random.random() < 0.3:
            self.reopen()
        if self.link.is_open():
            self.note_synced()

    def empty_area(self):
        """Compacts a house that is full, if that helps."""
        try:
            self.link.compact()
        except (HouseFull, PowerCut):
            pass

    def do(self, kind):
        link, random = self.link, self.world.random
        letters = len(link.letters())
        if kind in ("send", "renew"):
            desk, number = self.world.one(sorted(self.requests))
            many = link.send(desk, number) if kind == "send" else link.renew(desk, number)
            self.case.assertEqual(len(link.letters()), letters + (many > 0))
        elif kind in ("deliver", "drop", "duplicate"):
            if letters:
                getattr(link, kind)(random.randrange(letters))
        elif kind == "commit":
            self.case.assertEqual(link.commit(self.changes()), link.house_version()[1])
        elif kind in ("sync", "compact"):
            getattr(link, kind)()
            self.counts["compactions"] += kind == "compact"
        elif kind == "cut":
            link.cut_power([random.randrange(33) if random.random() < 0.5 else 32 for _ in range(random.randrange(9))])
        elif kind == "schedule":
            many = self.world.one((0, 1, 2, 5, 20, 60))
            link.schedule_cut(many, [self.world.one((0, 5, 31, 32, 32)) for _ in range(random.randrange(60))])

    def reopen(self):
        try:
            newest = self.link.reopen()
        except PowerCut:
            self.case.assertFalse(self.link.is_open())
            return
        self.case.assertEqual(self.link.house_version(), (newest, newest))

    def databases(self):
        """The database of the house at each version from its base on."""
        table = {}
        for version in range(self.link.house_version()[1], -1, -1):
            try:
                table[version] = self.link.database(version)
            except OutOfRange:
                break
        return table

    def note_synced(self):
        """Versions that were synced are never lost, and are what they were."""
        synced, newest = self.link.house_version()
        self.case.assertGreaterEqual(synced, max(self.synced))
        self.case.assertGreaterEqual(newest, synced)
        table = self.databases()
        for version, base in table.items():
            if version in self.synced:
                self.case.assertTrue(base.same(self.synced[version]))
        # A compaction syncs versions that are in no history behind it, so that those that were made are noted before.
        self.made.update(table)
        for version in range(max(self.synced) + 1, synced + 1):
            self.synced[version] = self.made[version]

    def check_told(self):
        """Every decision that is told is that over all data, at each synced version of the span."""
        for (desk, number), request in self.requests.items():
            for version in {0, max(self.synced), self.world.random.randint(0, max(self.synced) + 1)}:
                told = self.link.told_at(desk, number, version)
                if told is not None:
                    self.check_decision(request, version, told)
            told, paper = self.link.told(desk, number), self.link.paper(desk, number)
            self.case.assertEqual(told is None, paper is None)
            if told is not None:
                self.check_paper(request, told, paper)

    def check_decision(self, request, version, told):
        decision, since, upto = told
        self.case.assertTrue(0 <= since <= version <= upto <= 100000)
        self.case.assertTrue(upto <= max(self.synced) or (since, upto) == (0, 100000))
        for at in range(since, min(upto, max(self.synced)) + 1):
            self.case.exactly(decide(self.policies, request, self.synced[at])[0], decision)
            self.counts["told"] += upto < 100000

    def check_paper(self, request, told, paper):
        decision, since, upto = told
        fitting = [policy for policy in self.policies if can_apply(policy, request_kind(request))]
        self.case.exactly(judge(fitting, request, decision, paper), True)
        self.counts["papers"] += len(paper) > 0
        for at in range(since, min(upto, max(self.synced)) + 1):
            self.case.exactly(agrees(paper, self.synced[at]), True)

    def check_letters(self):
        for kind, desk, rows in self.link.letters():
            self.case.assertIn(desk, range(self.desks))
            self.case.assertTrue(1 <= len(rows) <= 40)
            self.case.assertIs(type(rows), tuple)
            for row in rows if kind == "facts" else ():
                self.case.assertIsNone(check_fact(row))
                read, told, since, upto = row
                for at in range(since, upto + 1):
                    self.case.exactly(self.synced[at].tell(read), told)


class WholeTest(Case):
    def test_every_decision_that_is_told(self):
        counts = {}
        for seed in range(40):
            run = Run(self, seed)
            for _ in range(220):
                run.step()
                run.check_told()
            run.check_letters()
            for word, many in run.counts.items():
                counts[word] = counts.get(word, 0) + many
        # All of it really happened.
        self.assertGreater(counts["told"], 5000)
        self.assertGreater(counts["papers"], 1000)
        self.assertGreater(counts["cuts"], 200)
        self.assertGreater(counts["compactions"], 50)
        self.assertGreater(counts["full"], 0)


if __name__ == "__main__":
    unittest.main()
