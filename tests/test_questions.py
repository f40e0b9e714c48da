import unittest

from farfacts.databases import Database
from farfacts.deciding import decide
from farfacts.questions import permitted
from farfacts.requests import with_part
from helpers import PRINCIPAL, RESOURCE, YES, Case, entity, lit, number, op
from worlds import KINDS, World

BASE = [
    ("user:bob", (("level", number(3)),), ("group:a",)),
    ("user:ann", (("level", number(9)),), ()),
    ("user:eve", (), ("group:a",)),
    ("user:1", (("level", number(9)),), ("group:a",)),
    ("group:a", (), ()),
    ("doc:plan", (("owner", entity("user:bob")),), ()),
    ("doc:note", (("owner", entity("user:ann")),), ()),
    ("doc:free", (), ()),
]
REQUEST = ("user:bob", "action:share", "doc:plan", (("on", ("truth", True)),))


def everywhere(effect, condition, actions=None):
    return ("p", effect, ("any",), actions, ("any",), condition)


OWNED = everywhere("permit", op("same", PRINCIPAL, op("get", RESOURCE, "owner")))
STAFF = ("s", "permit", ("in", "group:a"), None, ("any",), YES)
STRONG = everywhere("permit", op("less", lit(number(5)), op("get", PRINCIPAL, "level")))
NEVER = everywhere("forbid", op("same", PRINCIPAL, lit(entity("user:1"))))


class PermittedTest(Case):
    def setUp(self):
        self.base = Database(BASE)

    def check(self, policies, part, kind, wanted, request=REQUEST):
        before = list(policies)
        found = permitted(policies, part, request, kind, self.base)
        self.exactly(found, wanted)
        found.append(7)
        self.exactly(permitted(policies, part, request, kind, self.base), wanted)
        self.exactly(policies, before)
        self.exactly(self.base.entities(), sorted(BASE))

    def test_principals(self):
        self.check([OWNED], "principal", "user", ["user:bob"])
        self.check([STAFF], "principal", "user", ["user:1", "user:bob", "user:eve"])
        self.check([STRONG], "principal", "user", ["user:1", "user:ann"])
        self.check([STAFF, NEVER], "principal", "user", ["user:bob", "user:eve"])
        self.check([STAFF, STRONG, NEVER], "principal", "user", ["user:ann", "user:bob", "user:eve"])
        self.check([everywhere("permit", YES)], "principal", "user", ["user:1", "user:ann", "user:bob", "user:eve"])
        self.check([STAFF], "principal", "group", ["group:a"])
        self.check([STAFF], "principal", "doc", [])

    def test_resources(self):
        self.check([OWNED], "resource", "doc", ["doc:plan"])
        self.check([OWNED], "resource", "doc", ["doc:note"], ("user:ann", "action:share", "user:ann", ()))
        self.check([OWNED], "resource", "doc", [], ("user:eve", "action:share", "doc:plan", ()))
        self.check([STAFF], "resource", "doc", ["doc:free", "doc:note", "doc:plan"])
        self.check([STRONG], "resource", "doc", [])

    def test_none(self):
        for part in ("principal", "resource"):
            self.check([], part, "user", [])
            self.check([everywhere("permit", YES)], part, "none", [])
            self.check([everywhere("permit", YES)], part, "use", [])
            self.check([everywhere("permit", YES)], part, "bob", [])
            self.check([everywhere("permit", YES, ("action:read",))], part, "user", [])
        self.exactly(permitted([everywhere("permit", YES)], "principal", REQUEST, "user", Database([])), [])

    def test_the_rest_of_the_request_stays(self):
        self.check([everywhere("permit", op("context", "on"))], "principal", "group", ["group:a"])
        self.check([everywhere("permit", YES, ("action:share",))], "resource", "group", ["group:a"])
        # The entity that stood in this part is not asked unless it is of the kind.
        self.check([everywhere("permit", op("same", RESOURCE, lit(entity("doc:plan"))))], "resource", "user", [])
        self.check([everywhere("permit", op("same", RESOURCE, lit(entity("doc:plan"))))], "principal", "group", ["group:a"])

    def test_each_error(self):
        rows = [everywhere("permit", YES)]
        for part in ("action", "context", "", "Principal", "resources"):
            self.out_of_range("part", permitted, rows, part, REQUEST, "user", self.base)
        for part in ("principal", "resource"):
            for kind in ("", "User", "user:bob", "abcdefghijklm"):
                self.out_of_range("kind", permitted, rows, part, REQUEST, kind, self.base)
            for at, name in enumerate(("principal", "action", "resource", "context")):
                bad = (("A", number(1)),) if name == "context" else "bob"
                request = REQUEST[:at] + (bad,) + REQUEST[at + 1:]
                self.out_of_range(name, permitted, rows, part, request, "user", self.base)
                self.out_of_range(name, permitted, [], part, request, "none", Database([]))

    def test_two_errors_at_once(self):
        bad = ("bob", "share", "plan", (("A", number(1)),))
        good = REQUEST
        for part in ("action", ""):
            self.out_of_range("part", permitted, [], part, good, "", self.base)
            self.out_of_range("part", permitted, [], part, bad, "user", self.base)
            self.out_of_range("part", permitted, [], part, bad, "", self.base)
        for part in ("principal", "resource"):
            self.out_of_range("kind", permitted, [], part, bad, "User", self.base)
            for at, name in enumerate(("principal", "action", "resource", "context")):
                self.out_of_range(name, permitted, [], part, good[:at] + bad[at:], "user", self.base)
                self.out_of_range("kind", permitted, [], part, good[:at] + bad[at:], "", self.base)

    def test_by_the_words_of_the_document(self):
        world = World(48)
        some = 0
        for _ in range(150):
            rows, request, base = world.policies(6), world.request(), world.database()
            for part in ("principal", "resource"):
                for kind in KINDS:
                    wanted = sorted(one[0] for one in base.entities() if one[0].startswith(kind + ":")
                                    and decide(rows, with_part(request, part, one[0]), base)[0][0])
                    self.exactly(permitted(rows, part, request, kind, base), wanted)
                    some += 0 < len(wanted) < 3
        self.assertGreater(some, 40)

    def test_only_entities_of_the_database(self):
        self.exactly(permitted([everywhere("permit", YES)], "resource", ("x:x", "x:x", "x:x", ()), "x", self.base), [])


if __name__ == "__main__":
    unittest.main()
