import itertools
import unittest

from farfacts import databases
from farfacts.databases import Database, check_entity
from helpers import Case, entity, items, number, text, truth

BAD_UIDS = ("", "bob", "user:", ":bob", "a:b:c", "User:bob", "user:Bob", "@user:bob", "abcdefghijklm:a", "?")
EIGHT = tuple(("n" + str(n), number(n)) for n in range(8))
SIX = tuple("g:" + str(n) for n in range(6))

GOOD = (
    ("user:bob", (), ()),
    ("user:bob", EIGHT, SIX),
    ("user:bob", (("1", text("")), ("a", truth(False)), ("aa", ("set", ()))), ("a:b", "user:bob")),
    ("a:b", (("abcdefghijkl", items(number(1), number(2))),), ("a1:b", "a:b", "a:bc", "b:a")),
)
BAD_ATTRIBUTES = (
    EIGHT + (("n8", number(8)),),
    (("b", number(1)), ("a", number(1))),
    (("a", number(1)), ("a", number(1))),
    (("a", number(1)), ("a", number(2))),
    (("a", number(1)), ("c", number(1)), ("b", number(1))),
    (("b", number(1)), ("a", number(1)), ("c", number(1))),
    (("aa", number(1)), ("a", number(1))),
    (("", number(1)),),
    (("A", number(1)),),
    (("a", number(1)), ("b b", number(1))),
    (("abcdefghijklm", number(1)),),
    (("a", number(1000001)),),
    (("a", text("x" * 41)),),
    (("a", entity("bob")),),
    (("a", items(number(2), number(1))),),
    (("a", items(items(number(1)))),),
    (("a", number(1)), ("b", number(-1000001))),
    (("a", number(-1000001)), ("b", number(1))),
)
BAD_PARENTS = (
    SIX + ("g:6",),
    ("b:a", "a:b"),
    ("a:b", "a:b"),
    ("a:a", "a:c", "a:b"),
    ("a:b", "a:a", "a:c"),
    ("a:b", "a1:b"),
    ("a:bc", "a:b"),
    ("bob",),
    ("",),
    ("a:b", "b"),
    ("A:b", "a:b"),
    ("a:b:c",),
    ("?",),
)


def chain(many):
    """Entities each of which has the next one as its parent, the last one a uid that is none."""
    return [("c:" + str(100 + n), (), ("c:" + str(101 + n),)) for n in range(many)]


def plain(many):
    return [("e:" + str(100 + n), (), ()) for n in range(many)]


SMALL = [
    ("user:bob", (("age", number(7)), ("boss", entity("user:ann")), ("tags", ("set", ()))), ("group:b",)),
    ("user:ann", (("off", truth(False)),), ("group:a", "group:none")),
    ("group:a", (), ("group:b", "top:x")),
    ("group:b", (("age", number(0)),), ("group:a", "user:bob")),
    ("self:x", (), ("self:x",)),
    ("a1:b", (), ("self:x",)),
    ("lone:x", (), ()),
]


class EntityTest(Case):
    def test_bounds(self):
        self.exactly((databases.ENTITIES_MOST, databases.ATTRIBUTES_MOST, databases.PARENTS_MOST, databases.CHANGES_MOST),
                     (40, 8, 6, 8))

    def test_good(self):
        for one in GOOD:
            self.assertIsNone(check_entity(one))

    def test_each_part(self):
        for uid in BAD_UIDS:
            self.out_of_range("uid", check_entity, (uid, (), ()))
        for attributes in BAD_ATTRIBUTES:
            self.out_of_range("attributes", check_entity, ("user:bob", attributes, ()))
        for parents in BAD_PARENTS:
            self.out_of_range("parents", check_entity, ("user:bob", (), parents))

    def test_two_parts_at_once(self):
        for attributes in BAD_ATTRIBUTES:
            self.out_of_range("attributes", check_entity, ("user:bob", attributes, BAD_PARENTS[0]))
            self.out_of_range("uid", check_entity, ("bob", attributes, ()))
        for parents in BAD_PARENTS:
            self.out_of_range("uid", check_entity, ("bob", (), parents))
        self.out_of_range("uid", check_entity, ("bob", BAD_ATTRIBUTES[0], BAD_PARENTS[0]))

    def test_numbers_of_parts(self):
        for many in range(0, 14):
            attributes = tuple(("n" + str(10 + n), number(n)) for n in range(many))
            parents = tuple("g:" + str(10 + n) for n in range(many))
            if many <= 8:
                self.assertIsNone(check_entity(("user:bob", attributes, ())))
            else:
                self.out_of_range("attributes", check_entity, ("user:bob", attributes, ()))
            if many <= 6:
                self.assertIsNone(check_entity(("user:bob", (), parents)))
            else:
                self.out_of_range("parents", check_entity, ("user:bob", (), parents))


class DatabaseTest(Case):
    def test_numbers_of_entities(self):
        for many in (0, 1, 2, 39, 40):
            base = Database(plain(many))
            self.exactly(base.many(), many)
            self.exactly(base.entities(), plain(many))
        for many in (41, 42, 100):
            self.out_of_range("entities", Database, plain(many))

    def test_the_same_uid_twice(self):
        self.out_of_range("entities", Database, [("a:b", (), ()), ("a:b", (), ())])
        self.out_of_range("entities", Database, [("a:b", (), ()), ("a:c", (), ()), ("a:b", (), SIX)])
        self.out_of_range("entities", Database, plain(39) + [("e:100", EIGHT, ())])
        self.out_of_range("entities", Database, plain(40) + [("e:100", (), ())])

    def test_wrong_entities(self):
        wrong = [(uid, (), ()) for uid in BAD_UIDS]
        wrong += [("user:bob", attributes, ()) for attributes in BAD_ATTRIBUTES]
        wrong += [("user:bob", (), parents) for parents in BAD_PARENTS]
        for one in wrong:
            self.out_of_range("entities", Database, [one])
            self.out_of_range("entities", Database, [("a:b", (), ()), one])
            self.out_of_range("entities", Database, [one, ("a:b", (), ())])

    def test_entities_rise(self):
        wanted = sorted(SMALL, key=lambda one: one[0])
        self.assertEqual([one[0] for one in wanted],
                         ["a1:b", "group:a", "group:b", "lone:x", "self:x", "user:ann", "user:bob"])
        for row in itertools.islice(itertools.permutations(SMALL), 0, 5040, 97):
            base = Database(list(row))
            self.exactly(base.entities(), wanted)
            self.exactly(base.many(), 7)
        self.exactly([one[0] for one in Database([("a:b", (), ()), ("a:1", (), ()), ("a1:b", (), ()), ("a:ab", (), ())]).entities()],
                     ["a1:b", "a:1", "a:ab", "a:b"])

    def test_lists_are_not_kept(self):
        row = list(reversed(SMALL))
        base = Database(row)
        self.exactly(row, list(reversed(SMALL)))
        wanted = sorted(SMALL, key=lambda one: one[0])
        row.append(("new:x", (), ()))
        row[0] = ("a:a", (), ())
        del row[1]
        self.exactly(base.entities(), wanted)
        given = base.entities()
        given.append(("new:x", (), ()))
        given[0] = ("new:y", (), ())
        self.exactly(base.entities(), wanted)
        self.exactly(base.many(), 7)
        self.assertFalse(base.has("new:x") or base.has("new:y") or base.has("a:a"))

    def test_has(self):
        base = Database(SMALL)
        for one in SMALL:
            self.assertTrue(base.has(one[0]))
        for uid in ("group:none", "top:x", "user:bo", "user:bobb", "bob:user"):
            self.assertFalse(base.has(uid))

    def test_attributes(self):
        base = Database(SMALL)
        for uid, attributes, _ in SMALL:
            for name, value in attributes:
                self.exactly(base.attribute(uid, name), value)
                self.exactly(base.tell(("attribute", uid, name)), ("value", value))
            self.assertIsNone(base.attribute(uid, "none"))
            self.exactly(base.tell(("attribute", uid, "none")), ("none",))
        self.assertIsNone(base.attribute("group:none", "age"))
        self.exactly(base.tell(("attribute", "group:none", "age")), ("gone",))
        self.exactly(base.tell(("attribute", "user:ann", "age")), ("none",))
        self.exactly(base.tell(("attribute", "user:ann", "off")), ("value", truth(False)))
        self.exactly(base.tell(("attribute", "group:b", "age")), ("value", number(0)))
        self.exactly(base.tell(("attribute", "user:bob", "tags")), ("value", ("set", ())))
        self.exactly(base.tell(("attribute", "top:x", "none")), ("gone",))

    def test_many_attributes(self):
        base = Database([("user:bob", EIGHT, ())])
        for name, value in EIGHT:
            self.exactly(base.attribute("user:bob", name), value)

    def test_parents(self):
        base = Database(SMALL)
        for uid, _, parents in SMALL:
            self.exactly(base.parents(uid), parents)
        for uid in ("group:none", "top:x", "x:x"):
            self.exactly(base.parents(uid), ())


class AncestorsTest(Case):
    def check(self, base, uid, wanted, others):
        self.exactly(base.ancestors(uid), wanted)
        self.exactly(base.tell(("ancestors", uid)), ("above", wanted))
        for other in others:
            self.assertEqual(bool(base.within(uid, other)), other == uid or other in wanted, (uid, other))

    def test_small(self):
        base = Database(SMALL)
        others = [one[0] for one in SMALL] + ["group:none", "top:x", "x:x"]
        for uid, wanted in (
                ("user:bob", ("group:a", "group:b", "top:x")),
                ("user:ann", ("group:a", "group:b", "group:none", "top:x", "user:bob")),
                ("group:a", ("group:b", "top:x", "user:bob")),
                ("group:b", ("group:a", "top:x", "user:bob")),
                ("self:x", ()), ("a1:b", ("self:x",)), ("lone:x", ()), ("group:none", ()), ("top:x", ()), ("x:x", ())):
            self.check(base, uid, wanted, others)

    def test_chain(self):
        base = Database(chain(40))
        uids = ["c:" + str(100 + n) for n in range(41)]
        for at, uid in enumerate(uids):
            self.check(base, uid, tuple(uids[at + 1:]), uids)

    def test_chain_in_any_order(self):
        base = Database(list(reversed(chain(40))))
        self.exactly(base.ancestors("c:100"), tuple("c:" + str(100 + n) for n in range(1, 41)))

    def test_circle(self):
        uids = ["c:" + str(100 + n) for n in range(40)]
        base = Database(chain(39) + [("c:139", (), ("c:100",))])
        for uid in uids:
            self.check(base, uid, tuple(other for other in uids if other != uid), uids + ["c:140"])

    def test_circle_aside(self):
        base = Database([("a:a", (), ("b:b",)), ("b:b", (), ("c:c",)), ("c:c", (), ("b:b",))])
        uids = ["a:a", "b:b", "c:c"]
        self.check(base, "a:a", ("b:b", "c:c"), uids)
        self.check(base, "b:b", ("c:c",), uids)
        self.check(base, "c:c", ("b:b",), uids)

    def test_many_ways(self):
        rows = [("d:" + str(n), (), tuple("d:" + str(m) for m in range(n + 1, min(n + 7, 10)))) for n in range(10)]
        base = Database(rows)
        for n in range(10):
            self.exactly(base.ancestors("d:" + str(n)), tuple("d:" + str(m) for m in range(n + 1, 10)))

    def test_rising(self):
        base = Database([("x:x", (), ("a:b", "b:a")), ("a:b", (), ("z:z",)), ("b:a", (), ("a1:b", "a:a"))])
        self.exactly(base.ancestors("x:x"), ("a1:b", "a:a", "a:b", "b:a", "z:z"))


class SameTest(Case):
    def test_same(self):
        base = Database(SMALL)
        self.assertTrue(base.same(base))
        self.assertTrue(base.same(Database(list(reversed(SMALL)))))
        self.assertTrue(Database([]).same(Database([])))

    def test_different(self):
        base = Database(SMALL)
        bob = SMALL[0]
        for other in (SMALL[1:], SMALL + [("new:x", (), ())], [], SMALL[1:] + [("user:bo", bob[1], bob[2])],
                      SMALL[1:] + [(bob[0], bob[1][1:], bob[2])], SMALL[1:] + [(bob[0], bob[1], ())],
                      SMALL[1:] + [(bob[0], (("age", number(8)),) + bob[1][1:], bob[2])],
                      SMALL[1:] + [(bob[0], (("age", text("7")),) + bob[1][1:], bob[2])],
                      SMALL[1:] + [(bob[0], (("aged", number(7)),) + bob[1][1:], bob[2])],
                      SMALL[1:] + [(bob[0], bob[1], ("group:a",))]):
            self.assertFalse(base.same(Database(other)))
            self.assertFalse(Database(other).same(base))


if __name__ == "__main__":
    unittest.main()
