"""Policies: their bounds, and what each of them says about a request."""

from farfacts.errors import OutOfRange
from farfacts.evaluating import WRONG_KIND, evaluate, join_reads, truth
from farfacts.expressions import check_expression
from farfacts.names import are_uids, check_name, is_name, is_uid, kind_of

ACTIONS_MOST = 8

# What stands in a template in place of a uid.
SLOT = "?"


def is_slot(scope):
    """Whether the scope has a slot in place of its uid."""
    return scope in (("is", SLOT), ("in", SLOT))


def is_scope(scope, slots):
    """Whether this is a scope within its bounds, which has a slot only if slots is True."""
    if scope == ("any",):
        return True
    if is_slot(scope):
        return slots
    if len(scope) != 2:
        return False
    kind, what = scope
    return is_name(what) if kind == "kind" else kind in ("is", "in") and is_uid(what)


def are_actions(actions):
    """Whether these are the actions of a policy: None, or rising uids."""
    return actions is None or len(actions) > 0 and are_uids(actions, ACTIONS_MOST)


def check_policy(policy, *, slots=False):
    """Refuses what is not a policy within its bounds; slots are allowed only if slots is True."""
    name, effect, principal, actions, resource, condition = policy
    check_name(name, "id")
    if effect not in ("permit", "forbid"):
        raise OutOfRange("effect")
    if not is_scope(principal, slots):
        raise OutOfRange("principal")
    if not are_actions(actions):
        raise OutOfRange("actions")
    if not is_scope(resource, slots):
        raise OutOfRange("resource")
    check_expression(condition, "condition")


def slots_of(policy):
    """Whether the scope of the principal, and whether that of the resource, has a slot."""
    return (is_slot(policy[2]), is_slot(policy[4]))


def is_template(policy):
    """Whether the policy has a slot."""
    return True in slots_of(policy)


def in_scope(scope, uid, source):
    """The outcome that tells whether the uid is in the scope, and the list of the reads that were told for it."""
    kind = scope[0]
    if kind == "any":
        return (truth(True), [])
    what = scope[1]
    if kind == "kind":
        return (truth(kind_of(uid) == what), [])
    if kind == "is" or uid == what:
        return (truth(uid == what), [])
    read = ("ancestors", uid)
    told = source.tell(read)
    if told is None:
        return (("needs", read), [])
    return (truth(what in told[1]), [read])


def condition_state(outcome):
    """The state of a policy that applies, by the outcome of its condition."""
    if outcome[0] != "value":
        return outcome
    kind, what = outcome[1]
    if kind != "truth":
        return WRONG_KIND
    return ("satisfied",) if what else ("unsatisfied",)


def policy_state(policy, request, source):
    """The state of the policy for the request, and the list of the reads that were told for it."""
    _, _, principal, actions, resource, condition = policy
    if actions is not None and request[1] not in actions:
        return (("off",), [])
    reads = []
    for scope, uid in ((principal, request[0]), (resource, request[2])):
        outcome, more = in_scope(scope, uid, source)
        reads = join_reads(reads, more)
        if outcome[0] == "needs":
            return (outcome, reads)
        if outcome == truth(False):
            return (("off",), reads)
    outcome, more = evaluate(condition, request, source)
    return (condition_state(outcome), join_reads(reads, more))


def scope_kind(scope):
    """The only kind that fits the scope, or None if every kind does."""
    if scope[0] in ("any", "in"):
        return None
    return scope[1] if scope[0] == "kind" else kind_of(scope[1])


def can_apply(policy, kind):
    """Whether the policy can apply to requests of this kind."""
    _, _, principal, actions, resource, _ = policy
    if actions is not None and kind[1] not in actions:
        return False
    return scope_kind(principal) in (None, kind[0]) and scope_kind(resource) in (None, kind[2])
