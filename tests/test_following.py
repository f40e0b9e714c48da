import unittest

from farfacts.databases import Database
from farfacts.deciding import decide
from farfacts.following import follow, named_reads, next_reads
from farfacts.manifests import manifest
from farfacts.paths import split_path
from farfacts.requests import request_kind
from helpers import Case, Recorder, entity, items, known_of, number, text, truth
from worlds import World

BASE = [
    ("user:bob", (("boss", entity("user:ann")), ("level", number(3)), ("team", items(entity("user:ann")))), ("group:a",)),
    ("user:ann", (("boss", entity("user:bob")), ("self", entity("user:ann"))), ()),
    ("doc:plan", (("name", text("user:bob")), ("owner", entity("user:bob")), ("shown", truth(True)),
                  ("stray", entity("user:gone"))), ("doc:x",)),
]
REQUEST = ("user:bob", "action:share", "doc:plan", (
    ("boss", entity("user:ann")), ("gone", entity("user:gone")), ("num", number(1)), ("several", items(entity("user:ann"))),
    ("word", text("user:ann"))))
BARE = REQUEST[:3] + ((),)


def attribute(uid, name):
    return ("attribute", uid, name)


class FollowTest(Case):
    def setUp(self):
        self.base = Database(BASE)

    def check(self, path, end, reads=(), request=REQUEST):
        """The end over the database, and over sources that know ever more of the reads."""
        root, names = split_path(path)
        reads = list(reads)
        self.exactly(follow(root, names, request, self.base), end)
        for at, read in enumerate(reads):
            source = Recorder(known_of(self.base, reads[:at]))
            self.exactly(follow(root, names, request, source), ("needs", read))
            self.exactly(source.asked, reads[:at + 1])
        source = Recorder(known_of(self.base, reads))
        self.exactly(follow(root, names, request, source), end)
        self.exactly(source.asked, reads)

    def test_roots(self):
        for request in (REQUEST, BARE):
            self.check("principal", ("to", "user:bob"), request=request)
            self.check("action", ("to", "action:share"), request=request)
            self.check("resource", ("to", "doc:plan"), request=request)
            for uid in ("user:ann", "user:gone", "no:no", "context:boss", "principal:x"):
                self.check(uid, ("to", uid), request=request)
        self.check("context.boss", ("to", "user:ann"))
        self.check("context.gone", ("to", "user:gone"))

    def test_roots_that_lead_nowhere(self):
        for name in ("num", "several", "word", "missing", "bos", "bosss", "principal"):
            for rest in ("", ".boss", ".boss.boss"):
                self.check("context." + name + rest, ("nowhere",))
        self.check("context.boss", ("nowhere",), request=BARE)
        self.check("context.boss.boss", ("nowhere",), request=BARE)

    def test_names(self):
        owner, boss, back = attribute("doc:plan", "owner"), attribute("user:bob", "boss"), attribute("user:ann", "boss")
        self.check("resource.owner", ("to", "user:bob"), [owner])
        self.check("resource.owner.boss", ("to", "user:ann"), [owner, boss])
        self.check("resource.owner.boss.boss", ("to", "user:bob"), [owner, boss, back])
        self.check("doc:plan.owner", ("to", "user:bob"), [owner])
        self.check("context.boss.boss", ("to", "user:bob"), [back])
        self.check("principal.boss", ("to", "user:ann"), [boss])
        self.check("resource.stray", ("to", "user:gone"), [attribute("doc:plan", "stray")])

    def test_names_that_lead_nowhere(self):
        for path, reads in (
                ("action.boss", [attribute("action:share", "boss")]),
                ("no:no.boss", [attribute("no:no", "boss")]),
                ("context.gone.boss", [attribute("user:gone", "boss")]),
                ("resource.stray.boss", [attribute("doc:plan", "stray"), attribute("user:gone", "boss")]),
                ("resource.missing", [attribute("doc:plan", "missing")]),
                ("resource.name", [attribute("doc:plan", "name")]),
                ("resource.shown", [attribute("doc:plan", "shown")]),
                ("principal.level", [attribute("user:bob", "level")]),
                ("principal.team", [attribute("user:bob", "team")]),
                ("principal.boss.level", [attribute("user:bob", "boss"), attribute("user:ann", "level")])):
            # Nothing is read behind the place from which it does not lead on.
            self.check(path, ("nowhere",), reads)
            self.check(path + ".boss", ("nowhere",), reads)
            self.check(path + ".boss.boss", ("nowhere",), reads)

    def test_circles(self):
        boss, back = attribute("user:bob", "boss"), attribute("user:ann", "boss")
        for many in range(3, 12):
            self.check("principal" + ".boss" * many, ("to", "user:ann" if many % 2 else "user:bob"), [boss, back])
        self.check("user:ann.self.self.self", ("to", "user:ann"), [attribute("user:ann", "self")])


class NamedTest(Case):
    def setUp(self):
        self.base = Database(BASE)

    def check(self, one, reads, request=REQUEST):
        found = named_reads(one, request, self.base)
        self.exactly(found, reads)
        found.append(7)
        self.exactly(named_reads(one, request, self.base), reads)

    def test_attributes(self):
        self.check(((), ()), [])
        self.check((("resource.owner",), ()), [attribute("doc:plan", "owner")])
        self.check((("resource.missing",), ()), [attribute("doc:plan", "missing")])
        self.check((("action.level",), ()), [attribute("action:share", "level")])
        self.check((("context.boss.level",), ()), [attribute("user:ann", "level")])
        self.check((("no:no.level",), ()), [attribute("no:no", "level")])
        # A path of several names does not name the reads on its way.
        self.check((("resource.owner.level",), ()), [attribute("user:bob", "level")])
        self.check((("resource.owner.boss.level",), ()), [attribute("user:ann", "level")])

    def test_paths_that_lead_nowhere(self):
        for path in ("context.missing.a", "context.num.a", "resource.missing.a", "resource.name.a", "action.level.a",
                     "resource.stray.boss.a", "principal.team.boss"):
            self.check(((path,), ()), [])
            self.check(((), (path,)), [])
        self.check((("context.boss.level",), ("context.boss",)), [], BARE)
        # The last name of a path of ancestors must lead on, that of a path of attributes need not.
        self.check((("resource.name",), ("resource.name",)), [attribute("doc:plan", "name")])
        self.check((("resource.stray.a",), ("resource.stray",)), [attribute("user:gone", "a"), ("ancestors", "user:gone")])

    def test_ancestors(self):
        self.check(((), ("principal", "resource.owner.boss", "no:no", "action")),
                   [("ancestors", "user:bob"), ("ancestors", "user:ann"), ("ancestors", "no:no"),
                    ("ancestors", "action:share")])
        self.check(((), ("context.gone", "context.boss")), [("ancestors", "user:gone"), ("ancestors", "user:ann")])

    def test_order_and_each_once(self):
        self.check((("resource.owner", "resource.owner.boss", "resource.owner.level"), ("resource", "resource.owner")),
                   [attribute("doc:plan", "owner"), attribute("user:bob", "boss"), attribute("user:bob", "level"),
                    ("ancestors", "doc:plan"), ("ancestors", "user:bob")])
        self.check((("resource.owner.level", "principal.boss", "resource.owner.boss", "user:bob.level"), ()),
                   [attribute("user:bob", "level"), attribute("user:bob", "boss")])
        self.check(((), ("user:bob", "principal", "resource.owner", "context.boss", "user:ann.self")),
                   [("ancestors", "user:bob"), ("ancestors", "user:ann")])

    def test_reads_of_deciding_are_named(self):
        world = World(44)
        some = 0
        for _ in range(500):
            request, base = world.request(), world.database()
            kind = request_kind(request)
            rows = world.applying(kind, 9)
            named = named_reads(manifest(rows, kind), request, base)
            self.assertEqual(len(set(named)), len(named))
            reads = decide(rows, request, base)[1]
            some += len(reads) > 3
            for read in reads:
                self.assertIn(read, named)
            # A policy that cannot apply is off, but it may have looked at the principal before the resource.
            rows = world.random.sample(rows + world.policies(4), len(rows))
            named = named_reads(manifest(rows, kind), request, base)
            for read in decide(rows, request, base)[1]:
                self.assertIn(read, named + [("ancestors", request[0])])
        self.assertGreater(some, 100)

    def test_a_policy_that_cannot_apply_may_read_what_is_not_named(self):
        rows = [("p", "permit", ("in", "group:a"), None, ("kind", "folder"), (("principal",),))]
        self.exactly(decide(rows, REQUEST, self.base), ((False, (), ()), [("ancestors", "user:bob")], None))
        self.check(manifest(rows, request_kind(REQUEST)), [])


class NextTest(Case):
    def setUp(self):
        self.base = Database(BASE)
        self.one = (("resource.owner", "resource.owner.boss", "resource.owner.boss.level", "context.boss.level"),
                    ("principal", "resource.owner.boss", "context.missing"))
        self.reads = [attribute("doc:plan", "owner"), attribute("user:bob", "boss"), attribute("user:ann", "level"),
                      ("ancestors", "user:bob"), ("ancestors", "user:ann")]

    def check(self, one, known, wanted, request=REQUEST):
        found = next_reads(one, request, Recorder(known_of(self.base, known)))
        self.exactly(found, wanted)
        found.append(7)
        self.exactly(next_reads(one, request, Recorder(known_of(self.base, known))), wanted)

    def test_a_source_that_knows_nothing(self):
        owner, boss, level, bob, ann = self.reads
        self.check(((), ()), [], [])
        self.check(self.one, [], [owner, level, bob])
        self.check((("context.boss.level", "resource.owner"), ("resource.owner", "action")), [],
                   [level, owner, ("ancestors", "action:share")])
        self.check((("context.missing.a", "context.num.b"), ("context.word",)), [], [])

    def test_sources_that_know_some(self):
        owner, boss, level, bob, ann = self.reads
        self.check(self.one, [owner], [boss, level, bob])
        self.check(self.one, [owner, bob], [boss, level])
        self.check(self.one, [owner, level, bob], [boss])
        self.check(self.one, [owner, boss], [level, bob, ann])
        self.check(self.one, [owner, boss, level], [bob, ann])
        self.check(self.one, [owner, boss, ann], [level, bob])
        self.check(self.one, [boss, level, ann], [owner, bob])
        self.check(self.one, self.reads[:-1], [ann])
        self.check(self.one, self.reads, [])

    def test_paths_of_ancestors_alone(self):
        owner, boss, level, bob, ann = self.reads
        one = ((), ("resource.owner", "resource.owner.boss", "principal"))
        self.check(one, [], [owner, bob])
        self.check(one, [bob], [owner])
        self.check(one, [owner], [bob, boss])
        self.check(one, [owner, boss], [bob, ann])
        self.check(one, [owner, boss, bob], [ann])
        self.check(one, [owner, boss, bob, ann], [])
        self.check((("resource.name",), one[1]), [], [attribute("doc:plan", "name"), owner, bob])

    def test_a_source_that_knows_all(self):
        self.exactly(next_reads(self.one, REQUEST, self.base), [])

    def test_paths_that_lead_nowhere(self):
        for known in ([], [attribute("doc:plan", "stray"), attribute("user:gone", "boss")]):
            self.check((("resource.stray.boss.level",), ("resource.stray.boss",)), known,
                       [attribute("doc:plan", "stray")] if not known else [])
        self.check((("resource.name",), ()), [attribute("doc:plan", "name")], [])
        self.check((("resource.name", "resource.name.a"), ("resource.name",)), [], [attribute("doc:plan", "name")])
        self.check((("resource.name", "resource.name.a"), ("resource.name",)), [attribute("doc:plan", "name")], [])
        self.check((("resource.stray",), ("resource.stray",)), [attribute("doc:plan", "stray")], [("ancestors", "user:gone")])

    def test_each_once(self):
        owner = attribute("doc:plan", "owner")
        self.check((("resource.owner", "doc:plan.owner.boss"), ("resource.owner", "doc:plan.owner")), [], [owner])
        self.check(((), ("principal", "resource.owner", "user:bob")), [owner], [("ancestors", "user:bob")])

    def test_rounds_end_with_what_is_named(self):
        world = World(45)
        for _ in range(200):
            request, base = world.request(), world.database()
            rows = world.applying(request_kind(request))
            one = manifest(rows, request_kind(request))
            named = named_reads(one, request, base)
            known, rounds = {}, 0
            while True:
                asked = next_reads(one, request, Recorder(dict(known)))
                self.assertEqual(len(set(asked)), len(asked))
                for read in asked:
                    self.assertNotIn(read, known)
                    self.assertIn(read, named)
                if not asked:
                    break
                known.update(known_of(base, asked))
                rounds += 1
            self.assertEqual(sorted(known), sorted(named))
            self.exactly(decide(rows, request, Recorder(known)), decide(rows, request, base))


if __name__ == "__main__":
    unittest.main()
