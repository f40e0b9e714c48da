"""Decisions: what policies together say about a request."""

from farfacts.evaluating import join_reads
from farfacts.policies import policy_state


def decide(policies, request, source):
    """The decision (None if there is a need), the list of the reads that were told, and the need (or None)."""
    reads = []
    satisfied = {"permit": [], "forbid": []}
    failures = []
    for policy in policies:
        state, more = policy_state(policy, request, source)
        reads = join_reads(reads, more)
        if state[0] == "needs":
            return (None, reads, state[1])
        if state[0] == "satisfied":
            satisfied[policy[1]].append(policy[0])
        if state[0] == "fails":
            failures.append((policy[0], state[1]))
    allowed = len(satisfied["permit"]) > 0 and len(satisfied["forbid"]) == 0
    reasons = satisfied["forbid"] or satisfied["permit"]
    return ((allowed, tuple(reasons), tuple(failures)), reads, None)
