import unittest

from farfacts import desks
from farfacts.deciding import decide
from farfacts.desks import Desk
from farfacts.errors import ChangeRefused, NoSession, UnlikeFacts
from farfacts.facts import Known, Told
from farfacts.history import History
from farfacts.papers import judge, paper_of
from farfacts.policies import can_apply
from farfacts.requests import request_kind
from farfacts.sessions import Session
from helpers import YES, Case, entity, number, truth
from worlds import ANY, BOB, BOSS, ENTITIES, NAMES, OPEN, OWNER, POLICIES, REQUEST, UIDS, World

# The one in the middle cannot apply to the request.
DESK_POLICIES = POLICIES[:1] + [("never", "forbid", ("in", "group:staff"), None, ("kind", "folder"), YES)] + POLICIES[1:]
STAFF, NOBODY = ("above", ("group:staff",)), ("above", ())
IS_BOB, IS_ANN = ("value", entity("user:bob")), ("value", entity("user:ann"))
YES_TOLD, NO_TOLD = ("value", truth(True)), ("value", truth(False))
SHOWN = (True, ("shown",), ())
ALWAYS = [("p", "permit", ANY, None, ANY, YES)]


class DeskTest(Case):
    def desk(self, *facts, modes=("lazy",), policies=DESK_POLICIES):
        made = Desk(policies)
        for mode in modes:
            made.begin(REQUEST, mode)
        made.learn(list(facts))
        return made

    def test_begin(self):
        self.exactly(desks.SESSIONS_MOST, 20)
        made = Desk(DESK_POLICIES)
        for number_of in range(20):
            self.exactly(made.begin(REQUEST, ("lazy", "batch")[number_of % 2]), number_of)
        for mode in ("lazy", "batch"):
            self.out_of_range("sessions", made.begin, REQUEST, mode)
        # What is wrong with the request and the mode comes first.
        self.out_of_range("principal", made.begin, ("bob",) + REQUEST[1:], "quick")
        self.out_of_range("context", made.begin, REQUEST[:3] + ((("B", number(1)),),), "quick")
        self.out_of_range("mode", made.begin, REQUEST, "quick")
        self.exactly((made.asks(0), made.asks(19)), ([BOB], [OWNER, OPEN, BOB]))

    def test_bad_sessions(self):
        made = Desk(DESK_POLICIES)
        for name, request, mode in (
                ("principal", ("bob", "action", "doc", ()), "quick"), ("action", ("user:bob", "share", "doc", ()), "lazy"),
                ("resource", ("user:bob", "action:share", "doc", ()), "lazy"),
                ("context", REQUEST[:3] + ((("b", number(1)), ("a", number(1))),), "batch"), ("mode", REQUEST, ""),
                ("mode", REQUEST, "Batch")):
            self.out_of_range(name, made.begin, request, mode)
        self.exactly(made.begin(REQUEST, "batch"), 0)

    def test_no_session(self):
        made = Desk(DESK_POLICIES)
        for many in range(3):
            for number_of in (-1, -20, many, many + 1, 20, 100):
                for call in (made.asks, made.renew, made.told, made.paper):
                    self.assertRaises(NoSession, call, number_of)
                for version in (0, -1, 100001):
                    self.assertRaises(NoSession, made.told_at, number_of, version)
            made.begin(REQUEST, "lazy")

    def test_version(self):
        made = Desk(DESK_POLICIES)
        self.exactly(made.version(), 0)
        for fact, version in (((BOB, NOBODY, 0, 0), 0), ((OWNER, IS_BOB, 3, 5), 5), ((BOB, NOBODY, 1, 2), 5),
                              ((OPEN, YES_TOLD, 100000, 100000), 100000)):
            made.learn([fact])
            self.exactly(made.version(), version)

    def test_learn(self):
        made = Desk(DESK_POLICIES)
        self.exactly(made.learn([]), 0)
        rows = [(BOB, NOBODY, 0, 2), (OWNER, IS_BOB, 1, 3), (BOB, NOBODY, 1, 2), (BOB, NOBODY, 2, 3), (BOB, NOBODY, 0, 3)]
        before = list(rows)
        self.exactly(made.learn(rows), 3)
        self.exactly(rows, before)
        self.exactly(made.learn(rows), 0)
        self.exactly(made.known().facts(), [(BOB, NOBODY, 0, 3), (OWNER, IS_BOB, 1, 3)])

    def test_learn_all_or_none(self):
        made = self.desk((BOB, NOBODY, 0, 2))
        before = made.known().facts()
        good = [(OWNER, IS_BOB, 0, 3), (OPEN, YES_TOLD, 0, 7)]
        for at in range(3):
            for name, wrong in (("read", (("ancestors", "bob"), NOBODY, 0, 0)), ("told", (BOB, IS_BOB, 0, 0)),
                                ("span", (BOB, NOBODY, 1, 0))):
                self.out_of_range(name, made.learn, good[:at] + [wrong] + good[at:])
            with self.assertRaises(UnlikeFacts):
                made.learn(good[:at] + [(BOB, STAFF, 2, 3)] + good[at:])
            self.exactly((made.known().facts(), made.version()), (before, 2))
        # One fact may be unlike another one of the same list.
        with self.assertRaises(UnlikeFacts):
            made.learn(good + [(OPEN, NO_TOLD, 7, 7)])
        # Of several wrong facts the first one counts.
        wrong = (("ancestors", "bob"), NOBODY, 0, 0)
        self.out_of_range("read", made.learn, [good[0], wrong, (BOB, STAFF, 2, 3)])
        with self.assertRaises(UnlikeFacts):
            made.learn([good[0], (BOB, STAFF, 2, 3), wrong])
        self.exactly(made.known().facts(), before)
        self.exactly(made.learn(good), 2)

    def test_known_is_a_copy(self):
        made = self.desk((BOB, NOBODY, 0, 2))
        known = made.known()
        self.assertIs(type(known), Known)
        known.learn((OPEN, YES_TOLD, 0, 9))
        self.exactly((made.version(), made.known().facts()), (2, [(BOB, NOBODY, 0, 2)]))
        made.learn([(OWNER, IS_ANN, 0, 9)])
        self.exactly(known.spans(OWNER), [])

    def test_over_the_newest_version(self):
        made = self.desk(modes=("lazy", "batch"))
        self.exactly((made.asks(0), made.asks(1), made.renew(0), made.renew(1)), ([BOB], [OWNER, OPEN, BOB], [], []))
        made.learn([(BOB, STAFF, 0, 4), (OWNER, IS_BOB, 2, 4)])
        self.exactly((made.asks(0), made.asks(1), made.renew(0), made.renew(1)),
                     ([BOSS], [BOSS, OPEN], [BOB, OWNER], [BOB, OWNER]))
        # With a newer version everything must be asked for again.
        made.learn([(OPEN, YES_TOLD, 5, 5)])
        self.exactly((made.asks(0), made.asks(1), made.renew(0), made.renew(1)), ([BOB], [OWNER, BOB], [], []))
        made.learn([(BOB, NOBODY, 5, 5)])
        self.exactly((made.asks(0), made.asks(1), made.renew(0)), ([], [OWNER], [BOB, OPEN]))
        self.exactly(made.told(0), (SHOWN, 5, 5))
        # What is known of older versions does not help, what was learned late does.
        made.learn([(OWNER, IS_BOB, 0, 1), (BOSS, IS_ANN, 0, 4)])
        self.exactly((made.asks(1), made.renew(1)), ([OWNER], [BOB, OPEN]))

    def test_told(self):
        made = self.desk((BOB, STAFF, 0, 9), (OWNER, IS_BOB, 2, 9), (BOSS, IS_ANN, 3, 9))
        self.exactly((made.told(0), made.paper(0)), (None, None))
        made.learn([(OPEN, YES_TOLD, 6, 9)])
        self.exactly(made.told(0), (SHOWN, 6, 9))
        self.exactly(made.paper(0), ((BOB, STAFF), (OWNER, IS_BOB), (BOSS, IS_ANN), (OPEN, YES_TOLD)))
        made.learn([(OPEN, YES_TOLD, 0, 5), (OWNER, IS_ANN, 1, 1)])
        self.exactly(made.told(0), (SHOWN, 3, 9))
        made.learn([(BOSS, IS_ANN, 0, 2), (OWNER, IS_BOB, 0, 0)])
        self.exactly(made.told(0), (SHOWN, 2, 9))
        made.learn([(BOB, STAFF, 10, 12)])
        self.exactly((made.version(), made.told(0), made.paper(0)), (12, None, None))
        self.exactly(made.told_at(0, 9), (SHOWN, 2, 9))

    def test_told_at(self):
        made = self.desk((BOB, STAFF, 0, 3), (BOB, NOBODY, 4, 9), (OWNER, IS_BOB, 0, 3), (BOSS, IS_BOB, 0, 1),
                         (BOSS, IS_ANN, 2, 3), (OPEN, YES_TOLD, 0, 6), (OPEN, NO_TOLD, 7, 8), (OPEN, YES_TOLD, 9, 9))
        for version, wanted in ((0, ((False, ("staff",), ()), 0, 1)), (1, ((False, ("staff",), ()), 0, 1)), (2, (SHOWN, 2, 3)),
                                (3, (SHOWN, 2, 3)), (4, (SHOWN, 4, 6)), (6, (SHOWN, 4, 6)), (7, ((False, (), ()), 7, 8)),
                                (8, ((False, (), ()), 7, 8)), (9, (SHOWN, 9, 9)), (10, None), (100000, None)):
            self.exactly(made.told_at(0, version), wanted)
        self.exactly(made.told(0), (SHOWN, 9, 9))
        for version in (-1, -7, 100001, 1000000):
            self.out_of_range("version", made.told_at, 0, version)

    def test_a_read_that_is_not_known_at_a_version(self):
        for missing in (BOB, OWNER, BOSS, OPEN):
            table = {BOB: STAFF, OWNER: IS_BOB, BOSS: IS_ANN, OPEN: YES_TOLD}
            rows = [(read, told, 3, 7) for read, told in table.items() if read != missing]
            made = self.desk(*rows, (missing, table[missing], 3, 4), (missing, table[missing], 6, 6))
            for version, wanted in ((2, None), (3, (SHOWN, 3, 4)), (4, (SHOWN, 3, 4)), (5, None), (6, (SHOWN, 6, 6)), (7, None)):
                self.exactly(made.told_at(0, version), wanted)
            self.exactly((made.told(0), made.paper(0)), (None, None))

    def test_nothing_is_read(self):
        for policies, decision in ((ALWAYS, (True, ("p",), ())), ([], (False, (), ())), (DESK_POLICIES[1:2], (False, (), ()))):
            made = self.desk(policies=policies)
            self.exactly((made.told(0), made.paper(0), made.asks(0), made.renew(0)), ((decision, 0, 100000), (), [], []))
            for version in (0, 1, 99999, 100000):
                self.exactly(made.told_at(0, version), (decision, 0, 100000))
            self.out_of_range("version", made.told_at, 0, 100001)
            made.learn([(BOB, STAFF, 7, 9)])
            self.exactly(made.told(0), (decision, 0, 100000))

    def test_lists_are_not_kept(self):
        policies, rows = list(ALWAYS), [(OPEN, YES_TOLD, 0, 0)]
        made = Desk(policies)
        policies[0] = ("q", "forbid", ANY, None, ANY, YES)
        self.exactly(made.begin(REQUEST, "lazy"), 0)
        policies.append(ALWAYS[0])
        made.begin(REQUEST, "lazy")
        self.exactly([made.told(number_of)[0] for number_of in (0, 1)], [(True, ("p",), ())] * 2)
        made.learn(rows)
        rows.append((BOB, STAFF, 5, 5))
        self.exactly(made.version(), 0)
        made = self.desk((BOB, STAFF, 0, 0))
        for given in (made.asks(0), made.renew(0)):
            given.append(7)
            given[0] = 8
        self.exactly((made.asks(0), made.renew(0)), ([OWNER], [BOB]))

    def test_as_a_session_says(self):
        world = World(65)
        for _ in range(100):
            policies, base = world.policies(6), world.database()
            made, known = Desk(policies), Known()
            requests = [world.request() for _ in range(3)]
            for number_of, request in enumerate(requests):
                self.exactly(made.begin(request, ("lazy", "batch")[number_of % 2]), number_of)
            for version in range(4):
                reads = [("attribute", world.one(UIDS), world.one(NAMES)) for _ in range(12)]
                reads += [("ancestors", world.one(UIDS)) for _ in range(4)]
                rows = [(read, base.tell(read), 0, version) for read in reads]
                self.exactly(made.learn(rows), sum([known.learn(fact) for fact in rows]))
                view = known.view(made.version())
                self.exactly((made.version(), made.known().facts()), (version, known.facts()))
                for number_of, request in enumerate(requests):
                    one = Session(policies, request, ("lazy", "batch")[number_of % 2])
                    self.exactly(made.asks(number_of), one.asks(view))
                    self.exactly(made.renew(number_of), one.reads(view))
                    found = paper_of(one.policies(), request, view)
                    self.exactly(made.paper(number_of), None if found is None else found[1])
                    self.exactly((made.told(number_of) or (None,))[0], one.decision(view))


class FactsOfAHouseTest(Case):
    """Point 66: a decision that is told is that over the whole database, at all versions of the span."""

    def history(self, world):
        made = History(world.database(), 0)
        while made.newest() < 12:
            uid = world.one(ENTITIES)
            try:
                made.commit([world.one((("set", uid, world.one(NAMES), world.value()), ("under", uid, world.some(UIDS, 2)),
                                        ("drop", uid), ("make", uid, world.some(UIDS, 2))))])
            except ChangeRefused:
                continue
        return made

    def test_every_decision(self):
        world = World(66)
        some = 0
        for _ in range(60):
            made, policies = self.history(world), world.policies(6)
            desk = Desk(policies)
            requests = [world.request() for _ in range(4)]
            for number_of, request in enumerate(requests):
                desk.begin(request, ("lazy", "batch")[number_of % 2])
            rows = []
            for synced in range(13):
                for number_of in range(4):
                    reads = desk.asks(number_of) + desk.renew(number_of)
                    rows.extend(made.fact(read, synced, synced) for read in reads)
                # They come late, twice, in any order, or never.
                for fact in world.random.sample(rows, len(rows) // 2):
                    desk.learn([fact])
                for number_of, request in enumerate(requests):
                    some += self.check(made, desk, policies, number_of, request)
        self.assertGreater(some, 1000)

    def check(self, made, desk, policies, number_of, request):
        """Looks at all that is told of this session; how often something is told that depends on data."""
        some = 0
        fitting = [policy for policy in policies if can_apply(policy, request_kind(request))]
        for version in range(14):
            told = desk.told_at(number_of, version)
            if told is None:
                continue
            decision, since, upto = told
            self.assertTrue(since <= version <= upto)
            some += upto < 100000
            for at in range(since, min(upto, made.newest()) + 1):
                self.exactly(decide(policies, request, made.database(at))[0], decision)
            if version == desk.version():
                self.exactly(desk.told(number_of), told)
                self.exactly(judge(fitting, request, decision, desk.paper(number_of)), True)
                self.exactly(decide(fitting, request, Told(desk.paper(number_of)))[0], decision)
        return some


if __name__ == "__main__":
    unittest.main()
