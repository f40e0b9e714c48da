import itertools
import unittest

from farfacts.databases import Database
from farfacts.deciding import decide
from farfacts.evaluating import join_reads
from farfacts.policies import policy_state
from helpers import NO, PRINCIPAL, RESOURCE, YES, Case, Recorder, entity, known_of, lit, number, op, truth
from worlds import World

BASE = [
    ("user:bob", (("level", number(3)),), ("group:staff",)),
    ("doc:plan", (("locked", truth(False)), ("open", truth(True)), ("owner", entity("user:bob"))), ()),
]
REQUEST = ("user:bob", "action:share", "doc:plan", ())

BOB = ("ancestors", "user:bob")
LEVEL, LOCKED, OPEN, OWNER = (("attribute", uid, name) for uid, name in (
    ("user:bob", "level"), ("doc:plan", "locked"), ("doc:plan", "open"), ("doc:plan", "owner")))


def everywhere(name, effect, condition):
    return (name, effect, ("any",), None, ("any",), condition)


OPEN_NOW = op("get", RESOURCE, "open")
LOCKED_NOW = op("get", RESOURCE, "locked")
OWNED = op("same", PRINCIPAL, op("get", RESOURCE, "owner"))

# A policy with each state, with the reads it needs.
ROWS = (
    (everywhere("pyes", "permit", YES), "satisfied", []),
    (everywhere("popen", "permit", OPEN_NOW), "satisfied", [OPEN]),
    (everywhere("pno", "permit", NO), "unsatisfied", []),
    (("poff", "permit", ("in", "group:none"), None, ("any",), YES), "off", [BOB]),
    (everywhere("pfails", "permit", op("get", RESOURCE, "size")), "no attribute", [("attribute", "doc:plan", "size")]),
    (everywhere("pwrong", "permit", op("get", PRINCIPAL, "level")), "wrong kind", [LEVEL]),
    (everywhere("fyes", "forbid", YES), "satisfied", []),
    (everywhere("fowned", "forbid", OWNED), "satisfied", [OWNER]),
    (everywhere("flocked", "forbid", LOCKED_NOW), "unsatisfied", [LOCKED]),
    (("foff", "forbid", ("any",), ("action:read",), ("any",), YES), "off", []),
    (everywhere("ffails", "forbid", op("get", lit(entity("no:no")), "n")), "no entity", [("attribute", "no:no", "n")]),
    (everywhere("fwrong", "forbid", lit(number(1))), "wrong kind", []),
)


def wanted_of(rows):
    """The decision on policies with these states, and the reads."""
    permits = tuple(policy[0] for policy, state, _ in rows if state == "satisfied" and policy[1] == "permit")
    forbids = tuple(policy[0] for policy, state, _ in rows if state == "satisfied" and policy[1] == "forbid")
    failures = tuple((policy[0], state) for policy, state, _ in rows if " " in state)
    reads = []
    for _, _, more in rows:
        reads = reads + [read for read in more if read not in reads]
    return ((bool(permits) and not forbids, forbids or permits, failures), reads)


class DecideTest(Case):
    def setUp(self):
        self.base = Database(BASE)

    def check(self, policies, decision, reads):
        before = list(policies)
        self.exactly(decide(policies, REQUEST, self.base), (decision, reads, None))
        for at, read in enumerate(reads):
            source = Recorder(known_of(self.base, reads[:at]))
            self.exactly(decide(policies, REQUEST, source), (None, reads[:at], read))
            self.exactly(source.asked, reads[:at + 1])
        source = Recorder(known_of(self.base, reads))
        found = decide(policies, REQUEST, source)
        self.exactly(found, (decision, reads, None))
        self.exactly(source.asked, reads)
        found[1].append(7)
        self.exactly(decide(policies, REQUEST, self.base), (decision, reads, None))
        self.exactly(policies, before)

    def test_no_policy(self):
        self.check([], (False, (), ()), [])

    def test_by_hand(self):
        rows = {policy[0]: policy for policy, _, _ in ROWS}
        size = ("attribute", "doc:plan", "size")
        for names, decision, reads in (
                ("pyes", (True, ("pyes",), ()), []),
                ("pno", (False, (), ()), []),
                ("poff", (False, (), ()), [BOB]),
                ("pfails", (False, (), (("pfails", "no attribute"),)), [size]),
                ("pwrong", (False, (), (("pwrong", "wrong kind"),)), [LEVEL]),
                ("fyes", (False, ("fyes",), ()), []),
                ("flocked", (False, (), ()), [LOCKED]),
                ("ffails", (False, (), (("ffails", "no entity"),)), [("attribute", "no:no", "n")]),
                ("pyes popen", (True, ("pyes", "popen"), ()), [OPEN]),
                ("popen pyes", (True, ("popen", "pyes"), ()), [OPEN]),
                ("pyes fyes", (False, ("fyes",), ()), []),
                ("fowned pyes fyes popen", (False, ("fowned", "fyes"), ()), [OWNER, OPEN]),
                ("flocked pno pyes foff", (True, ("pyes",), ()), [LOCKED]),
                ("pyes ffails", (True, ("pyes",), (("ffails", "no entity"),)), [("attribute", "no:no", "n")]),
                ("fwrong pfails popen fyes pwrong",
                 (False, ("fyes",), (("fwrong", "wrong kind"), ("pfails", "no attribute"), ("pwrong", "wrong kind"))),
                 [size, OPEN, LEVEL])):
            self.check([rows[name] for name in names.split()], decision, reads)

    def test_orders(self):
        for many in (1, 2, 3):
            for rows in itertools.permutations(ROWS, many):
                self.check([row[0] for row in rows], *wanted_of(rows))

    def test_more_policies(self):
        world = World(33)
        for many in range(4, 13):
            for _ in range(6):
                rows = world.random.sample(ROWS, many)
                self.check([row[0] for row in rows], *wanted_of(rows))

    def test_reads_are_joined(self):
        rows = [everywhere("a", "permit", op("same", OPEN_NOW, LOCKED_NOW)), everywhere("b", "forbid", LOCKED_NOW),
                everywhere("c", "permit", op("and", OWNED, OPEN_NOW))]
        self.check(rows, (True, ("c",), ()), [OPEN, LOCKED, OWNER])

    def test_a_need_in_the_middle(self):
        rows = [everywhere("a", "permit", OPEN_NOW), everywhere("b", "forbid", op("and", OPEN_NOW, LOCKED_NOW)),
                everywhere("c", "forbid", YES), everywhere("d", "permit", OWNED)]
        source = Recorder(known_of(self.base, [OPEN, OWNER]))
        self.exactly(decide(rows, REQUEST, source), (None, [OPEN], LOCKED))
        self.exactly(source.asked, [OPEN, LOCKED])
        # A decision that is plain without the need is none, either.
        self.exactly(decide([everywhere("f", "forbid", YES)] + rows, REQUEST, Recorder({})), (None, [], OPEN))
        # Policies that fail with what is told need nothing more.
        self.exactly(decide(rows + [everywhere("f", "forbid", YES)], REQUEST, Recorder({OPEN: ("gone",)})),
                     (None, [OPEN], OWNER))

    def test_as_the_states_say(self):
        world = World(331)
        for _ in range(200):
            policies, request, base = world.policies(8), world.request(), world.database()
            states = [policy_state(policy, request, base) for policy in policies]
            reads = []
            for _, more in states:
                reads = join_reads(reads, more)
            rows = [(policy, state[1] if state[0] == "fails" else state[0], more)
                    for policy, (state, more) in zip(policies, states)]
            self.exactly(decide(policies, request, base), wanted_of(rows) + (None,))
            self.exactly(wanted_of(rows)[1], reads)


if __name__ == "__main__":
    unittest.main()
