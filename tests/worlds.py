"""Small worlds: one by hand, and others made of a random source with a fixed seed."""

import random

from farfacts.databases import Database
from farfacts.errors import OutOfRange
from farfacts.expressions import check_expression
from farfacts.policies import can_apply
from farfacts.values import make_set
from helpers import NO, PRINCIPAL, RESOURCE, YES, entity, lit, number, op, text, truth

# The world by hand: a plan and its owner, a request, the reads that it needs, and policies that need them.
PLAN = [
    ("user:bob", (("boss", entity("user:ann")), ("level", number(3))), ("group:staff",)),
    ("doc:plan", (("open", truth(True)), ("owner", entity("user:bob"))), ()),
]
REQUEST = ("user:bob", "action:share", "doc:plan", ())
ANY = ("any",)
OPEN, OWNER = ("attribute", "doc:plan", "open"), ("attribute", "doc:plan", "owner")
BOSS, BOB = ("attribute", "user:bob", "boss"), ("ancestors", "user:bob")
OPENED = op("get", RESOURCE, "open")
OWNED = op("same", PRINCIPAL, op("get", op("get", RESOURCE, "owner"), "boss"))
POLICIES = [
    ("staff", "forbid", ("in", "group:staff"), ("action:share",), ANY, OWNED),
    ("shown", "permit", ANY, None, ("kind", "doc"), OPENED),
]

KINDS = ("doc", "team", "user")
UIDS = tuple(kind + ":" + letter for kind in KINDS for letter in "abc")
# Some of the uids are never entities.
ENTITIES = tuple(uid for uid in UIDS if uid not in ("doc:c", "team:c"))
NAMES = ("boss", "level", "owner", "tags")
ACTIONS = ("act:read", "act:share", "act:write")


# The operations that may be a truth, by how deep they may still go.
TESTS = (("yes",), ("is", "given", "has", "in"), ("has", "in", "in", "is", "same", "any"),
         ("has", "has", "in", "in", "in", "same", "not", "and", "or", "if"), ("in", "not", "and", "or", "or", "if", "if"))


class World:
    def __init__(self, seed):
        self.random = random.Random(seed)

    def one(self, row):
        return self.random.choice(row)

    def some(self, row, most):
        return tuple(sorted(self.random.sample(row, self.random.randint(0, min(most, len(row))))))

    def scalar(self):
        if self.random.random() < 0.7:
            return entity(self.one(UIDS))
        return self.one((number(self.one((0, 1, 2))), truth(self.one((False, True))), text("x")))

    def value(self):
        if self.random.random() < 0.2:
            return make_set([entity(self.one(UIDS)) for _ in range(self.random.randint(0, 3))])
        return self.scalar()

    def database(self):
        rows = []
        for uid in ENTITIES:
            pairs = tuple((name, self.value()) for name in NAMES if self.random.random() < 0.9)
            if self.random.random() < 0.9:
                rows.append((uid, pairs, self.some(UIDS, 2)))
        return Database(rows)

    def request(self):
        context = tuple((name, self.value()) for name in self.some(NAMES, 3))
        return (self.one(UIDS), self.one(ACTIONS), self.one(UIDS), context)

    def place(self, depth):
        """An expression that may be an entity."""
        kind = self.one(("part", "part", "value", "context", "get", "get", "get", "if")) if depth else "part"
        if kind == "value":
            return lit(entity(self.one(UIDS)))
        if kind == "context":
            return (("context", self.one(NAMES)),)
        if kind == "get":
            return op("get", self.place(depth - 1), self.one(NAMES))
        if kind == "if":
            return op("if", self.test(depth - 1), self.place(depth - 1), self.place(depth - 1))
        return ((self.one(("principal", "principal", "resource", "resource", "action")),),)

    def test(self, depth):
        """An expression that may be a truth."""
        kind = self.one(TESTS[depth])
        if kind in ("has", "is"):
            return op(kind, self.place(depth - 1), self.one(NAMES if kind == "has" else KINDS))
        if kind == "in":
            return op("in", self.place(depth - 1), self.one((self.place(depth - 1), lit(self.value()))))
        if kind == "same":
            return op("same", self.place(depth - 1), self.place(depth - 1))
        if kind == "not":
            return op("not", self.test(depth - 1))
        if kind in ("and", "or"):
            return op(kind, self.test(depth - 1), self.test(depth - 1))
        if kind == "if":
            return op("if", self.test(depth - 1), self.test(depth - 1), self.test(depth - 1))
        if kind == "given":
            return (("given", self.one(NAMES)),)
        return lit(self.value()) if kind == "any" else self.one((YES, NO))

    def expression(self):
        while True:
            found = self.test(4)
            try:
                check_expression(found)
            except OutOfRange:
                continue
            return found

    def scope(self, slots=False):
        kind = self.one(("any", "any", "is", "in", "in", "kind"))
        if kind == "any":
            return ("any",)
        if kind == "kind":
            return ("kind", self.one(KINDS))
        return (kind, "?" if slots and self.random.random() < 0.5 else self.one(UIDS))

    def policy(self, name, slots=False):
        actions = self.some(ACTIONS, 3) or None
        return (name, self.one(("forbid", "permit", "permit")), self.scope(slots), actions, self.scope(slots),
                self.expression())

    def policies(self, most=5):
        return [self.policy("p" + str(n)) for n in range(self.random.randint(0, most))]

    def applying(self, kind, most=5):
        """Policies all of which can apply to the kind of request."""
        rows = []
        many = self.random.randint(0, most)
        while len(rows) < many:
            one = self.policy("p" + str(len(rows)))
            if can_apply(one, kind):
                rows.append(one)
        return rows
