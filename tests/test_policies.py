import itertools
import unittest

from farfacts import policies
from farfacts.databases import Database
from farfacts.policies import can_apply, check_policy, in_scope, is_template, policy_state, slots_of
from farfacts.requests import request_kind
from helpers import (ACTION, NO, PRINCIPAL, RESOURCE, YES, Case, Recorder, entity, items, known_of, lit, nots, number, op,
                     text, truth)
from worlds import ACTIONS, KINDS, World

EIGHT = tuple("a:" + str(n) for n in range(8))
PARTS = ("id", "effect", "principal", "actions", "resource", "condition")
GOOD = ("owner", "permit", ("any",), ("action:read", "action:share"), ("kind", "doc"),
        op("same", PRINCIPAL, op("get", RESOURCE, "owner")))

BAD_NAMES = ("", "Owner", "an owner", "a:b", "abcdefghijklm", "a-b", "?")
BAD_UIDS = ("", "bob", "user:", ":bob", "a:b:c", "User:bob", "@user:bob", "abcdefghijklm:a", "any", "??")
SLOTS = (("is", "?"), ("in", "?"))
GOOD_SCOPES = (("any",), ("is", "user:bob"), ("in", "group:staff"), ("kind", "user"), ("is", "a:b"), ("kind", "1"))
BAD_SCOPES = tuple((kind, uid) for kind in ("is", "in") for uid in BAD_UIDS) + tuple(
    ("kind", name) for name in BAD_NAMES) + (("kind", "user:bob"), ("near", "user:bob"), ("near", "?"), ("any", "user:bob"),
                                             (), ("is",), ("in", "user:bob", "user:bob"))
GOOD_ACTIONS = (None, ("a:b",), EIGHT, EIGHT[:7], ("a1:b", "a:b"), ("a:a", "a:aa", "b:a"))
BAD_ACTIONS = ((), EIGHT + ("b:0",), EIGHT + ("a:7",), ("a:b", "a:a"), ("a:b", "a:b"), ("a:a", "a:c", "a:b"),
               ("a:b", "a1:b"), ("read",), ("",), ("a:b", "b"), ("A:b", "a:b"), ("any",), ("?",))
BAD_CONDITIONS = ((), YES + YES, (("not", 0),), YES + (("not", 1),), YES + (("and", 0, 0),), nots(41),
                  lit(number(1000001)), lit(items(number(2), number(1))), op("get", PRINCIPAL, "A"), (("context", ""),))
BAD = {"id": BAD_NAMES, "effect": ("", "allow", "Permit", "permits", "forbid "), "principal": BAD_SCOPES,
       "actions": BAD_ACTIONS, "resource": BAD_SCOPES, "condition": BAD_CONDITIONS}

BASE = [
    ("user:bob", (("boss", entity("user:ann")), ("level", number(3)), ("on", truth(True))), ("group:staff",)),
    ("user:ann", (("off", truth(False)),), ("group:all", "group:none")),
    ("group:staff", (), ("group:all", "user:gone")),
    ("group:all", (), ("group:staff",)),
    ("self:x", (), ("self:x",)),
    ("doc:plan", (("owner", entity("user:bob")),), ("folder:x",)),
    ("folder:x", (), ("folder:y",)),
    ("folder:y", (), ("folder:x",)),
]
REQUEST = ("user:bob", "action:share", "doc:plan", (("word", text("x")),))
WRONG = ("fails", "wrong kind")


def changed(policy, **parts):
    """The policy with other parts."""
    return tuple(parts.get(part, old) for part, old in zip(PARTS, policy))


class CheckTest(Case):
    def test_bound(self):
        self.exactly(policies.ACTIONS_MOST, 8)

    def test_good(self):
        for one in GOOD_SCOPES:
            for two in GOOD_SCOPES:
                for actions in GOOD_ACTIONS:
                    policy = changed(GOOD, principal=one, resource=two, actions=actions)
                    self.assertIsNone(check_policy(policy))
                    self.assertIsNone(check_policy(policy, slots=False))
                    self.assertIsNone(check_policy(policy, slots=True))
        for name in ("a", "1", "abcdefghijkl", "permit"):
            self.assertIsNone(check_policy(changed(GOOD, id=name)))
        for condition in (YES, nots(40), lit(("set", ())), (("context", "a"),), lit(number(7))):
            self.assertIsNone(check_policy(changed(GOOD, effect="forbid", condition=condition)))

    def test_each_part(self):
        for part in PARTS:
            for bad in BAD[part]:
                for slots in (False, True):
                    self.out_of_range(part, check_policy, changed(GOOD, **{part: bad}), slots=slots)
                self.out_of_range(part, check_policy, changed(GOOD, **{part: bad}))

    def test_two_parts_at_once(self):
        for first, second in itertools.combinations(PARTS, 2):
            for one, two in itertools.product(BAD[first], BAD[second]):
                self.out_of_range(first, check_policy, changed(GOOD, **{first: one, second: two}))
        everything = tuple(BAD[part][0] for part in PARTS)
        for at, part in enumerate(PARTS):
            self.out_of_range(part, check_policy, GOOD[:at] + everything[at:])

    def test_numbers_of_actions(self):
        for many in range(0, 14):
            policy = changed(GOOD, actions=tuple("a:" + str(10 + n) for n in range(many)))
            if 1 <= many <= 8:
                self.assertIsNone(check_policy(policy))
            else:
                self.out_of_range("actions", check_policy, policy)

    def test_slots(self):
        for slot in SLOTS:
            for other in GOOD_SCOPES:
                for part, rest in (("principal", "resource"), ("resource", "principal")):
                    policy = changed(GOOD, **{part: slot, rest: other})
                    self.assertIsNone(check_policy(policy, slots=True))
                    self.out_of_range(part, check_policy, policy)
                    self.out_of_range(part, check_policy, policy, slots=False)
            for second in SLOTS:
                policy = changed(GOOD, principal=slot, resource=second)
                self.assertIsNone(check_policy(policy, slots=True))
                self.out_of_range("principal", check_policy, policy)
                self.out_of_range("principal", check_policy, policy, slots=False)
            # A slot that is not allowed is a fault in its place among the others.
            self.out_of_range("effect", check_policy, changed(GOOD, effect="", principal=slot))
            self.out_of_range("principal", check_policy, changed(GOOD, principal=slot, actions=()))
            self.out_of_range("actions", check_policy, changed(GOOD, resource=slot, actions=()))
            self.out_of_range("resource", check_policy, changed(GOOD, resource=slot, condition=()))
            self.out_of_range("condition", check_policy, changed(GOOD, resource=slot, condition=()), slots=True)
            self.out_of_range("resource", check_policy, changed(GOOD, principal=slot, resource=("is", "x")), slots=True)

    def test_a_slot_is_no_kind_and_no_action(self):
        for part in ("principal", "resource"):
            self.out_of_range(part, check_policy, changed(GOOD, **{part: ("kind", "?")}), slots=True)
        self.out_of_range("actions", check_policy, changed(GOOD, actions=("?",)), slots=True)


class SlotsTest(Case):
    def test_slots(self):
        plain = GOOD_SCOPES + BAD_SCOPES + (("kind", "?"),)
        for one, two in itertools.product(plain + SLOTS, repeat=2):
            policy = changed(GOOD, principal=one, resource=two)
            wanted = (one in SLOTS, two in SLOTS)
            self.exactly(slots_of(policy), wanted)
            self.exactly(is_template(policy), wanted[0] or wanted[1])

    def test_policies_that_are_refused(self):
        for part in ("id", "effect", "actions", "condition"):
            for bad in BAD[part]:
                for slot in SLOTS:
                    policy = changed(GOOD, **{part: bad})
                    self.exactly((slots_of(policy), is_template(policy)), ((False, False), False))
                    policy = changed(policy, principal=slot)
                    self.exactly((slots_of(policy), is_template(policy)), ((True, False), True))
                    policy = changed(policy, resource=slot)
                    self.exactly((slots_of(policy), is_template(policy)), ((True, True), True))
                    policy = changed(policy, principal=("any",))
                    self.exactly((slots_of(policy), is_template(policy)), ((False, True), True))


class ScopeTest(Case):
    def setUp(self):
        self.base = Database(BASE)

    def check(self, scope, uid, wanted, reads=()):
        reads = list(reads)
        self.exactly(in_scope(scope, uid, self.base), (("value", truth(wanted)), reads))
        nothing = Recorder({})
        found = in_scope(scope, uid, nothing)
        if reads:
            self.exactly(found, (("needs", reads[0]), []))
        else:
            self.exactly(found, (("value", truth(wanted)), []))
        self.exactly(nothing.asked, reads)
        found[1].append(7)
        self.exactly(in_scope(scope, uid, Recorder(known_of(self.base, reads))), (("value", truth(wanted)), reads))

    def test_any(self):
        for uid in ("user:bob", "self:x", "no:no"):
            self.check(("any",), uid, True)

    def test_is(self):
        for uid in ("user:bob", "self:x", "no:no"):
            for other in ("user:bob", "user:bo", "user:bobb", "self:x", "no:no", "group:staff"):
                self.check(("is", other), uid, uid == other)

    def test_kind(self):
        for uid, kind, wanted in (("user:bob", "user", True), ("user:bob", "bob", False), ("user:bob", "use", False),
                                  ("user:bob", "users", False), ("no:no", "no", True), ("no:way", "way", False),
                                  ("doc:plan", "user", False)):
            self.check(("kind", kind), uid, wanted)

    def test_in_by_hand(self):
        bob = [("ancestors", "user:bob")]
        self.check(("in", "user:bob"), "user:bob", True)
        self.check(("in", "no:no"), "no:no", True)
        self.check(("in", "group:staff"), "user:bob", True, bob)
        self.check(("in", "group:all"), "user:bob", True, bob)
        self.check(("in", "user:gone"), "user:bob", True, bob)
        self.check(("in", "user:ann"), "user:bob", False, bob)
        self.check(("in", "group:none"), "user:ann", True, [("ancestors", "user:ann")])
        self.check(("in", "user:bob"), "group:staff", False, [("ancestors", "group:staff")])
        self.check(("in", "group:staff"), "group:all", True, [("ancestors", "group:all")])
        self.check(("in", "self:x"), "self:x", True)
        self.check(("in", "user:bob"), "self:x", False, [("ancestors", "self:x")])
        self.check(("in", "group:staff"), "no:no", False, [("ancestors", "no:no")])
        self.check(("in", "folder:x"), "folder:y", True, [("ancestors", "folder:y")])

    def test_in(self):
        uids = [one[0] for one in BASE] + ["group:none", "user:gone", "no:no"]
        for uid, other in itertools.product(uids, repeat=2):
            self.check(("in", other), uid, self.base.within(uid, other), [("ancestors", uid)] if uid != other else [])


class StateTest(Case):
    def setUp(self):
        self.base = Database(BASE)

    def check(self, policy, state, reads=(), request=REQUEST):
        """The state over the database, and over sources that know ever more of its reads."""
        reads = list(reads)
        self.exactly(policy_state(policy, request, self.base), (state, reads))
        for at, read in enumerate(reads):
            source = Recorder(known_of(self.base, reads[:at]))
            self.exactly(policy_state(policy, request, source), (("needs", read), reads[:at]))
            self.exactly(source.asked, reads[:at + 1])
        source = Recorder(known_of(self.base, reads))
        found = policy_state(policy, request, source)
        self.exactly(found, (state, reads))
        self.exactly(source.asked, reads)
        found[1].append(7)
        self.exactly(policy_state(policy, request, self.base), (state, reads))

    def policy(self, principal, actions, resource, condition):
        return ("p", "permit", principal, actions, resource, condition)

    def test_condition(self):
        owner = [("attribute", "doc:plan", "owner")]
        for condition, state, reads in (
                (YES, ("satisfied",), []), (NO, ("unsatisfied",), []), (op("not", YES), ("unsatisfied",), []),
                (op("same", PRINCIPAL, op("get", RESOURCE, "owner")), ("satisfied",), owner),
                (op("same", ACTION, op("get", RESOURCE, "owner")), ("unsatisfied",), owner),
                (op("get", PRINCIPAL, "on"), ("satisfied",), [("attribute", "user:bob", "on")]),
                (op("get", op("get", PRINCIPAL, "boss"), "off"), ("unsatisfied",),
                 [("attribute", "user:bob", "boss"), ("attribute", "user:ann", "off")]),
                (lit(number(1)), WRONG, []), (lit(text("yes")), WRONG, []), (lit(("set", ())), WRONG, []),
                (lit(items(truth(True))), WRONG, []), (PRINCIPAL, WRONG, []), (op("context", "word"), WRONG, []),
                (op("get", PRINCIPAL, "level"), WRONG, [("attribute", "user:bob", "level")]),
                (op("get", RESOURCE, "owner"), WRONG, owner),
                (op("context", "missing"), ("fails", "no attribute"), []),
                (op("get", RESOURCE, "size"), ("fails", "no attribute"), [("attribute", "doc:plan", "size")]),
                (op("get", ACTION, "size"), ("fails", "no entity"), [("attribute", "action:share", "size")]),
                (op("not", lit(number(1))), WRONG, [])):
            for actions in (None, ("action:share",), ("action:read", "action:share", "action:write")):
                self.check(self.policy(("any",), actions, ("any",), condition), state, reads)
                self.check(self.policy(("kind", "user"), actions, ("is", "doc:plan"), condition), state, reads)
                self.check(self.policy(("in", "user:bob"), actions, ("in", "doc:plan"), condition), state, reads)

    def test_an_action_that_is_not_among_them_comes_first(self):
        for actions in (("action:read",), ("action:read", "action:write"), ("action:shar", "action:sharee"), ("doc:plan",)):
            for scope in (("any",), ("in", "group:staff"), ("is", "no:no")):
                for condition in (YES, PRINCIPAL, op("get", RESOURCE, "owner")):
                    self.check(self.policy(scope, actions, scope, condition), ("off",))

    def test_the_principal_comes_before_the_resource(self):
        bob, plan = ("ancestors", "user:bob"), ("ancestors", "doc:plan")
        for condition in (YES, PRINCIPAL, op("get", RESOURCE, "owner")):
            self.check(self.policy(("is", "no:no"), None, ("in", "folder:y"), condition), ("off",))
            self.check(self.policy(("kind", "doc"), None, ("in", "folder:y"), condition), ("off",))
            self.check(self.policy(("in", "no:no"), None, ("in", "folder:y"), condition), ("off",), [bob])
            self.check(self.policy(("in", "no:no"), None, ("is", "no:no"), condition), ("off",), [bob])
            self.check(self.policy(("in", "group:all"), None, ("is", "no:no"), condition), ("off",), [bob])
            self.check(self.policy(("in", "group:all"), None, ("kind", "user"), condition), ("off",), [bob])
            self.check(self.policy(("in", "group:all"), None, ("in", "no:no"), condition), ("off",), [bob, plan])
            self.check(self.policy(("any",), None, ("in", "no:no"), condition), ("off",), [plan])

    def test_reads_are_joined(self):
        bob, plan = ("ancestors", "user:bob"), ("ancestors", "doc:plan")
        owner = ("attribute", "doc:plan", "owner")
        both = (("in", "group:all"), None, ("in", "folder:y"))
        self.check(self.policy(*both, YES), ("satisfied",), [bob, plan])
        self.check(self.policy(*both, op("same", PRINCIPAL, op("get", RESOURCE, "owner"))), ("satisfied",), [bob, plan, owner])
        self.check(self.policy(*both, op("in", PRINCIPAL, lit(entity("no:no")))), ("unsatisfied",), [bob, plan])
        self.check(self.policy(*both, op("and", op("in", op("get", RESOURCE, "owner"), lit(entity("group:staff"))),
                                         op("in", RESOURCE, lit(entity("folder:x"))))), ("satisfied",), [bob, plan, owner])
        self.check(self.policy(("any",), None, ("in", "folder:y"), op("in", PRINCIPAL, RESOURCE)), ("unsatisfied",), [plan, bob])
        same = ("user:bob", "action:share", "user:bob", ())
        self.check(self.policy(("in", "group:all"), None, ("in", "group:staff"), YES), ("satisfied",), [bob], same)
        self.check(self.policy(("in", "group:all"), None, ("in", "no:no"), YES), ("off",), [bob], same)

    def test_a_source_that_knows_later_reads(self):
        plan, owner = ("ancestors", "doc:plan"), ("attribute", "doc:plan", "owner")
        policy = self.policy(("in", "group:all"), None, ("in", "folder:y"), op("get", RESOURCE, "owner"))
        source = Recorder(known_of(self.base, [plan, owner]))
        self.exactly(policy_state(policy, REQUEST, source), (("needs", ("ancestors", "user:bob")), []))
        self.exactly(source.asked, [("ancestors", "user:bob")])

    def test_effects_are_alike(self):
        for effect in ("permit", "forbid"):
            self.check(("p", effect, ("any",), None, ("any",), YES), ("satisfied",))


class ApplyTest(Case):
    def test_by_hand(self):
        scopes = ((("any",), True), (("in", "group:x"), True), (("in", "user:x"), True), (("is", "user:x"), True),
                  (("is", "group:user"), False), (("kind", "user"), True), (("kind", "use"), False),
                  (("kind", "users"), False), (("is", "users:user"), False))
        rows = ((None, True), (("a:b",), True), (("a:a", "a:b", "a:c"), True), (("a:a", "a:bb"), False), (("b:a",), False))
        for (one, first), (two, second), (actions, third) in itertools.product(scopes, scopes, rows):
            policy = ("p", "forbid", one, actions, two, YES)
            self.exactly(can_apply(policy, ("user", "a:b", "user")), first and second and third)

    def test_parts_are_not_mixed(self):
        policy = ("p", "permit", ("kind", "user"), ("a:b",), ("is", "doc:x"), NO)
        for kind, wanted in ((("user", "a:b", "doc"), True), (("doc", "a:b", "user"), False), (("user", "a:b", "user"), False),
                             (("doc", "a:b", "doc"), False), (("user", "doc:x", "doc"), False)):
            self.exactly(can_apply(policy, kind), wanted)

    def test_what_cannot_apply_is_off(self):
        world = World(34)
        off = 0
        for _ in range(600):
            policy, request, base = world.policy("p"), world.request(), world.database()
            if not can_apply(policy, request_kind(request)):
                self.exactly(policy_state(policy, request, base)[0], ("off",))
                off += 1
        self.assertTrue(100 < off < 500, off)

    def test_what_can_apply_is_on_somewhere(self):
        # The scopes fit the kind just where some uids of it, over some database, are in them.
        world = World(35)
        for _ in range(60):
            policy = world.policy("p")[:5] + (YES,)
            above = tuple(sorted({scope[1] for scope in (policy[2], policy[4]) if scope[0] == "in"}))
            uids = sorted({kind + ":q" for kind in KINDS} | {s[1] for s in (policy[2], policy[4]) if s[0] == "is"})
            base = Database([(uid, (), above) for uid in uids])
            found = {request_kind(request) for request in itertools.product(uids, ACTIONS, uids, [()])
                     if policy_state(policy, request, base)[0] == ("satisfied",)}
            for kind in itertools.product(KINDS, ACTIONS, KINDS):
                self.exactly(can_apply(policy, kind), kind in found)


if __name__ == "__main__":
    unittest.main()
