import itertools
import unittest

from farfacts.errors import SlotsDiffer
from farfacts.policies import check_policy
from farfacts.templates import link_template
from helpers import PRINCIPAL, RESOURCE, YES, Case, op

BAD_NAMES = ("", "Link", "a link", "a:b", "abcdefghijklm", "?")
BAD_UIDS = ("", "bob", "user:", ":bob", "a:b:c", "User:bob", "@user:bob", "abcdefghijklm:a", "?")
SCOPES = (("any",), ("is", "user:x"), ("in", "group:x"), ("kind", "user"), ("is", "?"), ("in", "?"))
SLOTS = (("is", "?"), ("in", "?"))
CONDITION = op("same", PRINCIPAL, op("get", RESOURCE, "owner"))


def template(principal, resource):
    return ("t", "forbid", principal, ("a:b", "a:c"), resource, CONDITION)


BOTH = template(("is", "?"), ("in", "?"))


class LinkTest(Case):
    def check(self, one, principal, resource, wanted):
        before = repr(one)
        self.exactly(link_template(one, "link", principal, resource), wanted)
        self.assertEqual(repr(one), before)

    def differ(self, one, principal, resource):
        before = repr(one)
        with self.assertRaises(SlotsDiffer):
            link_template(one, "link", principal, resource)
        self.assertEqual(repr(one), before)

    def test_by_hand(self):
        self.check(BOTH, "user:bob", "folder:x",
                   ("link", "forbid", ("is", "user:bob"), ("a:b", "a:c"), ("in", "folder:x"), CONDITION))
        self.check(template(("in", "?"), ("any",)), "group:staff", None,
                   ("link", "forbid", ("in", "group:staff"), ("a:b", "a:c"), ("any",), CONDITION))
        self.check(template(("is", "user:x"), ("is", "?")), None, "doc:plan",
                   ("link", "forbid", ("is", "user:x"), ("a:b", "a:c"), ("is", "doc:plan"), CONDITION))
        self.check(("t", "permit", ("in", "?"), None, ("kind", "doc"), YES), "a:b", None,
                   ("link", "permit", ("in", "a:b"), None, ("kind", "doc"), YES))

    def test_scopes_of_every_kind(self):
        for one, two in itertools.product(SCOPES, repeat=2):
            for principal, resource in itertools.product((None, "user:bob", "x:x"), repeat=2):
                if (one in SLOTS, two in SLOTS) == (principal is not None, resource is not None):
                    first = (one[0], principal) if principal else one
                    second = (two[0], resource) if resource else two
                    wanted = ("link", "forbid", first, ("a:b", "a:c"), second, CONDITION)
                    self.check(template(one, two), principal, resource, wanted)
                    self.assertIsNone(check_policy(wanted))
                else:
                    self.differ(template(one, two), principal, resource)

    def test_a_policy_without_slots(self):
        for one, two in itertools.product([scope for scope in SCOPES if scope not in SLOTS], repeat=2):
            self.check(template(one, two), None, None, ("link",) + template(one, two)[1:])
            for principal, resource in ((None, "a:b"), ("a:b", None), ("a:b", "a:b")):
                self.differ(template(one, two), principal, resource)

    def test_out_of_bounds(self):
        for one, two in itertools.product(SCOPES, repeat=2):
            row = template(one, two)
            for name in BAD_NAMES:
                self.out_of_range("id", link_template, row, name, None, None)
                self.out_of_range("id", link_template, row, name, "user:bob", "user:bob")
            for uid in BAD_UIDS:
                self.out_of_range("principal", link_template, row, "link", uid, None)
                self.out_of_range("principal", link_template, row, "link", uid, "user:bob")
                self.out_of_range("resource", link_template, row, "link", None, uid)
                self.out_of_range("resource", link_template, row, "link", "user:bob", uid)

    def test_two_faults_at_once(self):
        for one, two in itertools.product(SCOPES, repeat=2):
            row = template(one, two)
            for name, uid in itertools.product(BAD_NAMES, BAD_UIDS):
                self.out_of_range("id", link_template, row, name, uid, None)
                self.out_of_range("id", link_template, row, name, None, uid)
            for uid, other in itertools.product(BAD_UIDS, repeat=2):
                self.out_of_range("principal", link_template, row, "link", uid, other)
        self.out_of_range("id", link_template, BOTH, "", "", "")

    def test_names_at_their_bounds(self):
        for name in ("a", "1", "abcdefghijkl"):
            self.exactly(link_template(BOTH, name, "a:b", "a:b")[0], name)


if __name__ == "__main__":
    unittest.main()
