"""What is evaluated, decided and followed over sources that know only the first reads."""

import unittest

from farfacts.deciding import decide
from farfacts.evaluating import evaluate
from farfacts.facts import Told
from farfacts.following import follow
from farfacts.paths import split_path
from farfacts.policies import in_scope, policy_state
from helpers import PRINCIPAL, RESOURCE, Case, op
from worlds import KINDS, NAMES, UIDS, World


def rows_of(source, reads):
    """The rows that tell these reads as the source does."""
    return [(read, source.tell(read)) for read in reads]


class ToldSourceTest(Case):
    def check(self, call, source, reads, ready, needs):
        """Over the first reads, from none to all: ready once all are told, and before it the need of the next one."""
        rows = rows_of(source, reads)
        for many in range(len(rows)):
            self.exactly(call(Told(rows[:many])), needs(reads[many], reads[:many]))
            self.exactly(call(Told(tuple(rows[:many]))), needs(reads[many], reads[:many]))
            # What is told of later reads does not help.
            self.exactly(call(Told(rows[:many] + rows[many + 1:])), needs(reads[many], reads[:many]))
        self.exactly(call(Told(rows)), ready)
        self.exactly(call(Told(list(reversed(rows)))), ready)

    def test_evaluate(self):
        world = World(25)
        many = 0
        for _ in range(1000):
            one, request, base = world.expression(), world.request(), world.database()
            outcome, reads = evaluate(one, request, base)
            many += len(reads) > 2
            self.check(lambda source: evaluate(one, request, source), base, reads, (outcome, reads),
                       lambda read, before: (("needs", read), before))
        self.assertGreater(many, 50)

    def test_in_scope(self):
        world = World(29)
        for _ in range(400):
            scope, uid, base = world.scope(), world.one(UIDS), world.database()
            outcome, reads = in_scope(scope, uid, base)
            self.exactly(reads, [("ancestors", uid)] if scope[0] == "in" and scope[1] != uid else [])
            self.check(lambda source: in_scope(scope, uid, source), base, reads, (outcome, reads),
                       lambda read, before: (("needs", read), before))

    def test_policy_state(self):
        world = World(32)
        found = {}
        for _ in range(800):
            policy, request, base = world.policy("p"), world.request(), world.database()
            state, reads = policy_state(policy, request, base)
            found[state[0]] = True
            self.check(lambda source: policy_state(policy, request, source), base, reads, (state, reads),
                       lambda read, before: (("needs", read), before))
        self.assertEqual(sorted(found), ["fails", "off", "satisfied", "unsatisfied"])

    def test_decide(self):
        world = World(33)
        many = 0
        for _ in range(900):
            policies, request, base = world.policies(8), world.request(), world.database()
            decision, reads, need = decide(policies, request, base)
            self.assertIsNone(need)
            many += len(reads) > 3
            self.check(lambda source: decide(policies, request, source), base, reads, (decision, reads, None),
                       lambda read, before: (None, before, read))
        self.assertGreater(many, 50)

    def test_follow(self):
        world = World(43)
        for _ in range(400):
            request, base = world.request(), world.database()
            root = world.one(("principal", "action", "resource", "context." + world.one(NAMES), world.one(UIDS)))
            path = ".".join([root] + [world.one(NAMES) for _ in range(world.random.randint(0, 4))])
            root, names = split_path(path)
            end = follow(root, names, request, base)
            rows = []
            while True:
                found = follow(root, names, request, Told(rows))
                if found[0] != "needs":
                    break
                self.assertNotIn(found[1], [read for read, _ in rows])
                rows.append((found[1], base.tell(found[1])))
            self.exactly(found, end)
            reads = [read for read, _ in rows]
            self.check(lambda source: follow(root, names, request, source), base, reads, end,
                       lambda read, before: ("needs", read))

    def test_by_hand(self):
        request = ("user:bob", "action:share", "doc:plan", ())
        owner, boss, above = ("attribute", "doc:plan", "owner"), ("attribute", "user:ann", "boss"), ("ancestors", "user:bob")
        chain = op("same", PRINCIPAL, op("get", op("get", RESOURCE, "owner"), "boss"))
        ann, bob = ("value", ("entity", "user:ann")), ("value", ("entity", "user:bob"))
        self.exactly(evaluate(chain, request, Told([])), (("needs", owner), []))
        self.exactly(evaluate(chain, request, Told([(owner, ann)])), (("needs", boss), [owner]))
        self.exactly(evaluate(chain, request, Told([(boss, bob)])), (("needs", owner), []))
        self.exactly(evaluate(chain, request, Told([(owner, ann), (boss, bob)])),
                     (("value", ("truth", True)), [owner, boss]))
        policy = ("p", "permit", ("in", "group:a"), None, ("any",), chain)
        self.exactly(policy_state(policy, request, Told([(owner, ann)])), (("needs", above), []))
        self.exactly(policy_state(policy, request, Told([(above, ("above", ()))])), (("off",), [above]))
        rows = [(above, ("above", ("group:a",)))]
        self.exactly(policy_state(policy, request, Told(rows)), (("needs", owner), [above]))
        self.exactly(decide([policy], request, Told(rows + [(owner, ann)])), (None, [above, owner], boss))
        self.exactly(decide([policy], request, Told(rows + [(owner, ann), (boss, bob)])),
                     ((True, ("p",), ()), [above, owner, boss], None))

    def test_kinds_of_worlds(self):
        # The worlds have a policy for each form of a scope.
        world = World(1)
        self.assertEqual({world.scope()[0] for _ in range(99)}, {"any", "is", "in", "kind"})
        self.assertEqual({uid.partition(":")[0] for uid in UIDS}, set(KINDS))


if __name__ == "__main__":
    unittest.main()
