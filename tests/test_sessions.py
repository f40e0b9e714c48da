import itertools
import unittest

from farfacts.databases import Database
from farfacts.deciding import decide
from farfacts.facts import Told
from farfacts.following import named_reads, next_reads
from farfacts.manifests import longest, manifest
from farfacts.policies import can_apply
from farfacts.requests import request_kind
from farfacts.sessions import Session
from helpers import NO, PRINCIPAL, RESOURCE, YES, Case, Recorder, entity, known_of, number, op
from worlds import ANY, BOB, BOSS, OPEN, OPENED, OWNER, PLAN, POLICIES, REQUEST, World

LEVEL = ("attribute", "user:bob", "level")
STAFF, SHOWN = POLICIES
# Each of them cannot apply for a reason of its own.
STRANGE = (
    ("other1", "permit", ANY, ("action:read",), ANY, op("has", PRINCIPAL, "level")),
    ("other2", "permit", ("kind", "team"), None, ANY, op("has", PRINCIPAL, "level")),
    ("other3", "permit", ("in", "group:staff"), None, ("kind", "folder"), YES),
    ("other4", "forbid", ("is", "team:a"), None, ANY, YES),
    ("other5", "forbid", ("in", "group:staff"), None, ("is", "folder:a"), YES),
)
MODES = ("lazy", "batch")

BAD_REQUESTS = (
    ("principal", ("bob", "action", "doc", 7)),
    ("action", ("user:bob", "action", "doc", ())),
    ("resource", ("user:bob", "action:share", "doc", (("b", number(1)), ("a", number(1))))),
    ("context", ("user:bob", "action:share", "doc:plan", (("b", number(1)), ("a", number(1))))),
    ("context", ("user:bob", "action:share", "doc:plan", tuple(("n" + str(n), number(n)) for n in range(9)))),
)


class SessionTest(Case):
    def setUp(self):
        self.base = Database(PLAN)

    def test_fields(self):
        for mode in MODES:
            one = Session([SHOWN], REQUEST, mode)
            self.exactly((one.request, one.mode), (REQUEST, mode))

    def test_errors(self):
        for name, request in BAD_REQUESTS:
            self.out_of_range(name, Session, [], request, "lazy")
            # The mode comes behind the request.
            self.out_of_range(name, Session, [], request, "quick")
        for mode in ("", "quick", "Lazy", "batch ", "lazybatch"):
            self.out_of_range("mode", Session, [SHOWN], REQUEST, mode)

    def test_policies(self):
        rows = [STRANGE[0], STAFF, STRANGE[1], STRANGE[2], SHOWN, STRANGE[3], STRANGE[4]]
        for order, wanted in ((rows, [STAFF, SHOWN]), (list(reversed(rows)), [SHOWN, STAFF]), (list(STRANGE), []), ([], [])):
            before = list(order)
            for mode in MODES:
                one = Session(order, REQUEST, mode)
                self.exactly(one.policies(), wanted)
                self.exactly(one.manifest(), manifest(wanted, request_kind(REQUEST)))
            self.exactly(order, before)

    def test_lists_are_not_kept(self):
        rows = [STAFF, SHOWN]
        one = Session(rows, REQUEST, "batch")
        rows.append(STRANGE[0])
        rows[0] = ("none", "permit", ANY, None, ANY, NO)
        self.exactly(one.policies(), [STAFF, SHOWN])
        for given in (one.policies(), one.asks(Told([])), one.reads(self.base)):
            given.append(7)
            given[0] = 8
        self.exactly(one.policies(), [STAFF, SHOWN])
        self.exactly(one.asks(Told([])), [OWNER, OPEN, BOB])
        self.exactly(one.reads(self.base), [BOB, OWNER, BOSS, OPEN])

    def test_lazy_by_hand(self):
        one = Session([STAFF, STRANGE[2], SHOWN], REQUEST, "lazy")
        reads = [BOB, OWNER, BOSS, OPEN]
        for many in range(4):
            source = Recorder(known_of(self.base, reads[:many]))
            self.exactly(one.asks(source), [reads[many]])
            self.exactly(one.decision(source), None)
            self.exactly(one.reads(source), reads[:many])
        for source in (self.base, Recorder(known_of(self.base, reads))):
            self.exactly(one.asks(source), [])
            self.exactly(one.decision(source), (True, ("shown",), ()))
            self.exactly(one.reads(source), reads)

    def test_batch_by_hand(self):
        one = Session([STRANGE[4], STAFF, SHOWN], REQUEST, "batch")
        self.exactly(one.manifest(), (("resource.owner", "resource.owner.boss", "resource.open"), ("principal",)))
        for known, asked in (([], [OWNER, OPEN, BOB]), ([OWNER], [BOSS, OPEN, BOB]), ([OWNER, OPEN, BOB], [BOSS]),
                             ([BOSS], [OWNER, OPEN, BOB]), ([OWNER, BOSS, BOB], [OPEN]), ([OWNER, BOSS, OPEN, BOB], [])):
            source = Recorder(known_of(self.base, known))
            self.exactly(one.asks(source), asked)
        self.exactly(one.asks(self.base), [])
        self.exactly(one.decision(Recorder(known_of(self.base, [BOB, OWNER, BOSS]))), None)
        self.exactly(one.reads(Recorder(known_of(self.base, [BOB, OWNER, OPEN]))), [BOB, OWNER])
        self.exactly(one.decision(self.base), (True, ("shown",), ()))

    def test_batch_asks_although_there_is_a_decision(self):
        choice = op("or", OPENED, op("has", PRINCIPAL, "level"))
        rows = [("p", "permit", ANY, None, ANY, choice)]
        source = Recorder(known_of(self.base, [OPEN]))
        self.exactly(Session(rows, REQUEST, "batch").asks(source), [LEVEL])
        self.exactly(Session(rows, REQUEST, "batch").decision(source), (True, ("p",), ()))
        self.exactly(Session(rows, REQUEST, "lazy").asks(source), [])

    def test_nothing_to_decide(self):
        for mode in MODES:
            for rows in ([], list(STRANGE)):
                one = Session(rows, REQUEST, mode)
                self.exactly(one.manifest(), ((), ()))
                self.exactly((one.asks(Told([])), one.decision(Told([])), one.reads(Told([]))), ([], (False, (), ()), []))

    def test_over_sources_that_know_some(self):
        world = World(51)
        for _ in range(150):
            rows, request, base = world.policies(8), world.request(), world.database()
            fitting = [policy for policy in rows if can_apply(policy, request_kind(request))]
            paths = manifest(fitting, request_kind(request))
            named = named_reads(paths, request, base)
            for part in (0, 0.3, 0.7, 1):
                known = [read for read in named if world.random.random() < part]
                source = Recorder(known_of(base, known))
                decision, reads, need = decide(fitting, request, source)
                lazy, batch = (Session(rows, request, mode) for mode in MODES)
                self.exactly(lazy.asks(source), [] if need is None else [need])
                self.exactly(batch.asks(source), next_reads(paths, request, source))
                for one in (lazy, batch):
                    self.exactly((one.policies(), one.manifest()), (fitting, paths))
                    self.exactly((one.decision(source), one.reads(source)), (decision, reads))
            # What cannot apply is off, so that the decision is that of all policies.
            for mode in MODES:
                one = Session(rows, request, mode)
                self.exactly((one.asks(base), one.decision(base)), ([], decide(rows, request, base)[0]))

    def rounds(self, one, base):
        """Lets all be told that is asked for; the reads of each round."""
        known, rows = {}, []
        while True:
            asked = one.asks(Recorder(dict(known)))
            if not asked:
                return rows, known
            self.assertEqual(len(set(asked)), len(asked))
            for read in asked:
                self.assertNotIn(read, known)
            known.update(known_of(base, asked))
            rows.append(asked)

    def test_rounds(self):
        world = World(52)
        most = 0
        for _ in range(400):
            rows, request, base = world.policies(9), world.request(), world.database()
            for mode in MODES:
                one = Session(rows, request, mode)
                named = named_reads(one.manifest(), request, base)
                asked, known = self.rounds(one, base)
                most = max(most, len(asked))
                self.assertLessEqual(len(asked), longest(one.manifest()) + 1 if mode == "batch" else len(named))
                for read in itertools.chain(*asked):
                    self.assertIn(read, named)
                self.exactly(one.decision(Recorder(known)), decide(rows, request, base)[0])
                if mode == "batch":
                    self.assertEqual(sorted(known), sorted(named))
        self.assertGreater(most, 4)

    def test_rounds_by_hand(self):
        chain = RESOURCE
        for _ in range(4):
            chain = op("get", chain, "boss")
        base = Database([("doc:a", (("boss", entity("doc:b")),), ()), ("doc:b", (("boss", entity("doc:c")),), ()),
                         ("doc:c", (("boss", entity("doc:d")),), ()), ("doc:d", (("boss", entity("doc:a")),), ())])
        request = ("user:bob", "action:share", "doc:a", ())
        reads = [("attribute", "doc:" + sign, "boss") for sign in "abcd"]
        one = Session([("p", "permit", ANY, None, ANY, op("in", chain, PRINCIPAL))], request, "batch")
        self.exactly(self.rounds(one, base)[0], [[read] for read in reads] + [[("ancestors", "doc:a")]])
        one = Session([("p", "permit", ANY, None, ANY, op("in", chain, RESOURCE))], request, "lazy")
        self.exactly(self.rounds(one, base)[0], [[read] for read in reads])


if __name__ == "__main__":
    unittest.main()
