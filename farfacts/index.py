"""Indexes: policies, looked up by the kinds of requests to which they can apply."""

from farfacts.policies import scope_kind


def keys_of(policy):
    """The keys under which the policy is kept: kinds and actions, None where it fits all of them."""
    _, _, principal, actions, resource, _ = policy
    first = scope_kind(principal)
    second = scope_kind(resource)
    if actions is None:
        return [(first, None, second)]
    return [(first, action, second) for action in actions]


def keys_for(kind):
    """The keys of all policies that can apply to the kind of request. A policy has at most one of them."""
    principal, action, resource = kind
    return [(first, middle, second)
            for first in (None, principal) for middle in (None, action) for second in (None, resource)]


class Index:
    """Policies in order, and where in this order those with a key are."""

    def __init__(self, policies):
        self._policies = list(policies)
        self._places = {}
        for at, policy in enumerate(self._policies):
            for key in keys_of(policy):
                self._places.setdefault(key, []).append(at)

    def select(self, kind):
        """The list of the policies that can apply to the kind of request, in their order."""
        places = []
        for key in keys_for(kind):
            places.extend(self._places.get(key, []))
        return [self._policies[at] for at in sorted(places)]

    def size(self):
        """The number of all policies."""
        return len(self._policies)
