import itertools
import unittest

from farfacts.index import Index
from farfacts.policies import can_apply
from farfacts.requests import request_kind
from helpers import YES, Case
from worlds import ACTIONS, KINDS, World

SCOPES = (("any",), ("is", "user:x"), ("is", "doc:user"), ("in", "group:x"), ("in", "user:x"), ("kind", "user"), ("kind", "doc"))
ROWS = (None, ("a:a",), ("a:b",), ("a:a", "a:b"), ("a:a", "a:b", "a:c", "a:d", "a:e", "a:f", "a:g", "a:h"))


def every_policy():
    """A policy for every pair of scopes and all actions."""
    return [("p" + str(at), "permit", one, actions, two, YES)
            for at, (one, actions, two) in enumerate(itertools.product(SCOPES, ROWS, SCOPES))]


class Looked(tuple):
    """A policy that counts how often something is taken from it."""

    count = 0

    def __getitem__(self, at):
        Looked.count += 1
        return tuple.__getitem__(self, at)

    def __iter__(self):
        Looked.count += 1
        return tuple.__iter__(self)


class IndexTest(Case):
    def check(self, policies, kinds):
        index = Index(policies)
        self.exactly(index.size(), len(policies))
        for kind in kinds:
            self.exactly(index.select(kind), [one for one in policies if can_apply(one, kind)])

    def test_no_policies(self):
        self.check([], [("user", "a:b", "doc")])

    def test_every_scope_and_action(self):
        kinds = list(itertools.product(("user", "doc", "group", "x", "none"), ("a:a", "a:b", "a:h", "a:x", "user:x"),
                                       ("user", "doc", "group", "none")))
        self.check(every_policy(), kinds)
        self.check(list(reversed(every_policy())), kinds)

    def test_kinds_that_occur_in_no_policy(self):
        rows = [("a", "permit", ("any",), None, ("in", "x:x"), YES), ("b", "permit", ("kind", "user"), None, ("any",), YES),
                ("c", "forbid", ("any",), ("a:b",), ("any",), YES), ("d", "forbid", ("any",), None, ("is", "doc:x"), YES)]
        index = Index(rows)
        self.exactly(index.size(), 4)
        self.exactly(index.select(("new", "new:new", "new")), [rows[0]])
        self.exactly(index.select(("user", "new:new", "new")), [rows[0], rows[1]])
        self.exactly(index.select(("new", "a:b", "new")), [rows[0], rows[2]])
        self.exactly(index.select(("new", "new:new", "doc")), [rows[0], rows[3]])
        self.exactly(index.select(("user", "a:b", "doc")), rows)
        self.exactly(Index(rows[1:]).select(("new", "new:new", "new")), [])

    def test_order(self):
        world = World(47)
        for _ in range(40):
            rows = every_policy()
            world.random.shuffle(rows)
            self.check(rows[:60], [("user", "a:a", "doc"), ("doc", "a:b", "user"), ("group", "a:c", "group")])

    def test_random_policies(self):
        world = World(471)
        for _ in range(100):
            rows = [world.policy("p" + str(n)) for n in range(20)]
            self.check(rows, list(itertools.product(KINDS, ACTIONS, KINDS)) + [request_kind(world.request())])

    def test_lists_do_not_reach_the_index(self):
        rows = every_policy()
        before, kind = list(rows), ("user", "a:a", "doc")
        index = Index(rows)
        self.exactly(rows, before)
        wanted = index.select(kind)
        rows.reverse()
        del rows[3:]
        self.exactly(index.select(kind), wanted)
        found = index.select(kind)
        found.append(7)
        found[0] = 7
        self.exactly(index.select(kind), wanted)
        self.exactly(index.size(), len(before))
        both = [index.select(("none", "a:x", "none")), index.select(("none", "a:x", "none"))]
        both[0].append(7)
        self.exactly(index.select(("none", "a:x", "none")), both[1])

    def test_policies_are_not_looked_at_one_by_one(self):
        rows = [Looked(("p" + str(n), "permit", ("kind", "k" + str(n)), ("a:b",), ("any",), YES)) for n in range(2000)]
        index = Index(rows)
        Looked.count = 0
        self.assertEqual(index.select(("k7", "a:b", "doc")), [rows[7]])
        self.assertEqual(index.select(("none", "a:b", "doc")), [])
        self.assertLess(Looked.count, 20)


if __name__ == "__main__":
    unittest.main()
