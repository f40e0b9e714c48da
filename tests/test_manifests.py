import itertools
import unittest

from farfacts.manifests import join_manifests, longest, manifest, policy_manifest
from farfacts.paths import expression_manifest
from farfacts.policies import can_apply
from farfacts.requests import request_kind
from helpers import PRINCIPAL, RESOURCE, YES, Case, entity, lit, op
from worlds import World

BOB = lit(entity("user:bob"))
OWNER = op("get", RESOURCE, "owner")
SCOPES = (("any",), ("is", "user:x"), ("in", "group:x"), ("kind", "user"), ("is", "?"), ("in", "?"))


def policy(principal, resource, condition, actions=None):
    return ("p", "permit", principal, actions, resource, condition)


def joined(rows):
    """The rows in one tuple, each item once."""
    found = []
    for row in rows:
        found.extend(item for item in row if item not in found)
    return tuple(found)


class JoinTest(Case):
    def test_join(self):
        one = (("principal.a", "resource.b"), ("principal",))
        two = (("resource.b", "user:x.c", "principal.a"), ("resource", "principal"))
        three = ((), ("context.n", "resource"))
        for rows, wanted in (
                ([], ((), ())), ([one], one), ([three], three), ([((), ())], ((), ())), ([one, one], one),
                ([one, two], (("principal.a", "resource.b", "user:x.c"), ("principal", "resource"))),
                ([two, one], (("resource.b", "user:x.c", "principal.a"), ("resource", "principal"))),
                ([three, one, two], (("principal.a", "resource.b", "user:x.c"), ("context.n", "resource", "principal"))),
                ([one, ((), ()), three], (("principal.a", "resource.b"), ("principal", "context.n", "resource")))):
            before = list(rows)
            self.exactly(join_manifests(rows), wanted)
            self.exactly(rows, before)

    def test_attributes_and_ancestors_are_apart(self):
        self.exactly(join_manifests([(("principal.a",), ()), ((), ("principal.a",))]), (("principal.a",), ("principal.a",)))


class PolicyTest(Case):
    def test_scopes(self):
        for one, two in itertools.product(SCOPES, repeat=2):
            first = ("principal",) if one[0] == "in" else ()
            second = ("resource",) if two[0] == "in" else ()
            self.exactly(policy_manifest(policy(one, two, YES)), ((), first + second))
            self.exactly(policy_manifest(policy(one, two, OWNER)), (("resource.owner",), first + second))

    def test_scopes_and_condition(self):
        both = (("in", "group:x"), ("in", "?"))
        none = (("any",), ("is", "?"))
        for (one, two), condition, ancestors in (
                (both, op("in", PRINCIPAL, BOB), ("principal", "resource")),
                (both, op("in", RESOURCE, BOB), ("principal", "resource")),
                (both, op("or", op("in", RESOURCE, BOB), op("in", BOB, PRINCIPAL)), ("principal", "resource", "user:bob")),
                (both, op("or", op("in", BOB, BOB), op("in", RESOURCE, BOB)), ("principal", "resource", "user:bob")),
                ((both[0], none[0]), op("or", op("in", RESOURCE, BOB), op("in", PRINCIPAL, BOB)), ("principal", "resource")),
                ((none[0], both[0]), op("or", op("in", PRINCIPAL, BOB), op("in", RESOURCE, BOB)), ("resource", "principal")),
                ((none[0], both[1]), op("in", PRINCIPAL, BOB), ("resource", "principal")),
                (none, op("or", op("in", RESOURCE, BOB), op("in", PRINCIPAL, BOB)), ("resource", "principal")),
                ((both[1], none[1]), op("in", op("if", YES, RESOURCE, PRINCIPAL), BOB), ("principal", "resource"))):
            self.exactly(policy_manifest(policy(one, two, condition)), ((), ancestors))

    def test_example(self):
        condition = (("principal",), ("resource",), ("get", 1, "owner"), ("get", 2, "manager"), ("same", 0, 3))
        self.exactly(policy_manifest(policy(("any",), ("kind", "doc"), condition)),
                     (("resource.owner", "resource.owner.manager"), ()))

    def test_by_the_words_of_the_document(self):
        world = World(41)
        for _ in range(200):
            one = world.policy("p", True)
            scopes = [part for part, scope in (("principal", one[2]), ("resource", one[4])) if scope[0] == "in"]
            attributes, ancestors = expression_manifest(one[5])
            self.exactly(policy_manifest(one), (attributes, joined([scopes, ancestors])))


class ManifestTest(Case):
    def test_no_policies(self):
        self.exactly(manifest([], ("user", "a:b", "doc")), ((), ()))

    def test_policies_that_cannot_apply(self):
        rows = [policy(("kind", "user"), ("any",), op("has", PRINCIPAL, "a")),
                policy(("in", "group:x"), ("is", "doc:y"), op("has", RESOURCE, "b")),
                policy(("any",), ("any",), op("has", RESOURCE, "c"), ("a:b", "a:c")),
                policy(("is", "team:x"), ("in", "?"), op("in", RESOURCE, PRINCIPAL)),
                policy(("any",), ("kind", "doc"), op("or", op("has", RESOURCE, "a"), op("has", PRINCIPAL, "a")), ("a:d",))]
        a, b, c = ("principal.a",), ("resource.b",), ("resource.c",)
        before = list(rows)
        for kind, wanted in ((("user", "a:b", "doc"), (a + b + c, ("principal",))),
                             (("user", "a:x", "doc"), (a + b, ("principal",))),
                             (("user", "a:c", "user"), (a + c, ())),
                             (("user", "a:d", "doc"), (a + b + ("resource.a",), ("principal",))),
                             (("doc", "a:d", "doc"), (b + ("resource.a",) + a, ("principal",))),
                             (("team", "a:x", "user"), ((), ("resource",))),
                             (("team", "a:x", "doc"), (b, ("principal", "resource"))),
                             (("doc", "a:x", "user"), ((), ()))):
            self.exactly(manifest(rows, kind), wanted)
            self.exactly(manifest(list(reversed(rows)), kind),
                         join_manifests([policy_manifest(one) for one in reversed(rows) if can_apply(one, kind)]))
        self.exactly(rows, before)

    def test_by_the_words_of_the_document(self):
        world = World(411)
        for _ in range(200):
            rows, kind = world.policies(6), request_kind(world.request())
            chosen = [policy_manifest(one) for one in rows if can_apply(one, kind)]
            self.exactly(manifest(rows, kind), (joined([one[0] for one in chosen]), joined([one[1] for one in chosen])))


class LongestTest(Case):
    def test_longest(self):
        for one, wanted in ((((), ()), 0), (((), ("principal",)), 0), (((), ("context.n", "user:bob")), 0),
                            ((("principal.a",), ()), 1), ((("context.n.a",), ("principal",)), 1),
                            ((("user:bob.a.b",), ()), 2), ((("principal.a",), ("resource.a.b", "context.n.c")), 2),
                            ((("context.n.a.b.c", "principal.a"), ("principal.a",)), 3),
                            (((), ("principal.a.b.c.d.e",)), 5), ((("resource.owner", "resource.owner.manager"), ()), 2),
                            ((("a:b.c", "a:b.c.d", "a:b.d"), ()), 2)):
            self.exactly(longest(one), wanted)


if __name__ == "__main__":
    unittest.main()
