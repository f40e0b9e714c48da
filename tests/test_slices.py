import unittest

from farfacts.databases import Database
from farfacts.deciding import decide
from farfacts.following import named_reads
from farfacts.manifests import manifest
from farfacts.requests import request_kind
from farfacts.slices import slice_of
from helpers import Case, entity, number, text
from worlds import World

BOB = ("user:bob", (("boss", entity("user:ann")), ("level", number(3)), ("name", text("bob"))), ("group:a", "group:gone"))
ANN = ("user:ann", (("level", number(9)),), ("group:b",))
A = ("group:a", (("level", number(1)), ("name", text("a"))), ("group:b",))
B = ("group:b", (("name", text("b")),), ("group:a", "top:x"))
PLAN = ("doc:plan", (("name", text("plan")), ("owner", entity("user:bob")), ("stray", entity("user:gone"))), ("doc:x",))
LONE = ("lone:x", (("name", text("x")),), ("group:a",))
BASE = [BOB, ANN, A, B, PLAN, LONE]
REQUEST = ("user:bob", "action:share", "doc:plan", (("boss", entity("user:ann")), ("num", number(1))))


def cut(one, names, parents=False):
    """The entity with these of its attributes, and perhaps with its parents."""
    return (one[0], tuple(pair for pair in one[1] if pair[0] in names), one[2] if parents else ())


class SliceTest(Case):
    def check(self, one, wanted):
        base = Database(BASE)
        found = slice_of(base, REQUEST, one)
        self.assertIs(type(found), Database)
        self.exactly(found.entities(), sorted(wanted))
        self.exactly(base.entities(), sorted(BASE))

    def test_nothing(self):
        self.check(((), ()), [])
        self.check((("context.num.a", "context.missing.a", "no:no.level"), ("context.num", "no:no", "action")), [])

    def test_attributes(self):
        self.check((("principal.level",), ()), [cut(BOB, ("level",))])
        self.check((("principal.level", "principal.boss"), ()), [cut(BOB, ("boss", "level"))])
        self.check((("principal.boss", "principal.level", "resource.name"), ()), [cut(BOB, ("boss", "level")), cut(PLAN, ("name",))])
        self.check((("context.boss.level", "lone:x.name"), ()), [cut(ANN, ("level",)), cut(LONE, ("name",))])

    def test_attributes_that_are_not_there(self):
        self.check((("principal.missing",), ()), [cut(BOB, ())])
        self.check((("context.boss.name", "principal.name"), ()), [cut(ANN, ()), cut(BOB, ("name",))])
        self.check((("resource.stray.level",), ()), [])

    def test_only_what_is_named_is_kept(self):
        # The manifest of an expression has the paths on the way, too; this one has not.
        self.check((("resource.owner.level",), ()), [cut(BOB, ("level",))])
        self.check((("resource.owner", "resource.owner.level"), ()), [cut(BOB, ("level",)), cut(PLAN, ("owner",))])

    def test_hierarchy(self):
        # The parents lead around in a circle, and to uids that are no entities.
        self.check(((), ("principal",)), [cut(BOB, (), True), cut(A, (), True), cut(B, (), True)])
        self.check(((), ("group:b",)), [cut(A, (), True), cut(B, (), True)])
        self.check(((), ("resource",)), [cut(PLAN, (), True)])
        self.check(((), ("context.boss", "resource.missing")), [cut(ANN, (), True), cut(A, (), True), cut(B, (), True)])
        self.check(((), ("resource.stray", "user:gone", "top:x")), [])
        self.check(((), ("resource.owner",)), [cut(BOB, (), True), cut(A, (), True), cut(B, (), True)])

    def test_both(self):
        self.check((("group:a.name", "group:b.level", "principal.name"), ("principal",)),
                   [cut(BOB, ("name",), True), cut(A, ("name",), True), cut(B, (), True)])
        self.check((("group:a.name", "lone:x.name", "principal.name"), ("group:b",)),
                   [cut(BOB, ("name",)), cut(A, ("name",), True), cut(B, (), True), cut(LONE, ("name",))])
        self.check((("resource.owner", "group:b.name"), ("lone:x",)),
                   [cut(PLAN, ("owner",)), cut(A, (), True), cut(B, ("name",), True), cut(LONE, (), True)])

    def test_by_the_words_of_the_document(self):
        world = World(461)
        for _ in range(300):
            request, base = world.request(), world.database()
            one = manifest(world.applying(request_kind(request), 6), request_kind(request))
            reads = named_reads(one, request, base)
            above = {uid for read in reads if read[0] == "ancestors" for uid in (read[1],) + base.ancestors(read[1])}
            named = {read[1:] for read in reads if read[0] == "attribute"}
            wanted = [(uid, tuple(pair for pair in pairs if (uid, pair[0]) in named), parents if uid in above else ())
                      for uid, pairs, parents in base.entities() if uid in above or uid in {pair[0] for pair in named}]
            self.exactly(slice_of(base, request, one).entities(), wanted)

    def test_decided_as_on_the_database(self):
        world = World(46)
        smaller = 0
        for _ in range(500):
            request, base = world.request(), world.database()
            kind = request_kind(request)
            applying = world.applying(kind, 6)
            everything = world.random.sample(applying + world.policies(4), len(applying))
            for rows in (applying, everything):
                before = base.entities()
                part = slice_of(base, request, manifest(rows, kind))
                self.exactly(decide(rows, request, part), decide(rows, request, base))
                self.exactly(base.entities(), before)
                smaller += 0 < part.many() < base.many()
        self.assertGreater(smaller, 300)


if __name__ == "__main__":
    unittest.main()
