"""Manifests: which data policies can read, told by the policies alone."""

from farfacts.paths import expression_manifest, once, split_path
from farfacts.policies import can_apply


def join_manifests(manifests):
    """One manifest with the paths of all of them, each once, in order."""
    attributes = []
    ancestors = []
    for one in manifests:
        attributes.extend(one[0])
        ancestors.extend(one[1])
    return (once(attributes), once(ancestors))


def scope_paths(policy):
    """The paths of the ancestors that the scopes of the policy can read."""
    scopes = (("principal", policy[2]), ("resource", policy[4]))
    return tuple([part for part, scope in scopes if scope[0] == "in"])


def policy_manifest(policy):
    """The manifest of the scopes and the condition of the policy."""
    return join_manifests([((), scope_paths(policy)), expression_manifest(policy[5])])


def manifest(policies, kind):
    """The manifest of those policies that can apply to the kind of request."""
    return join_manifests([policy_manifest(policy) for policy in policies if can_apply(policy, kind)])


def longest(manifest):
    """The greatest number of names in a path of the manifest, 0 if it has none."""
    attributes, ancestors = manifest
    return max([len(split_path(path)[1]) for path in attributes + ancestors], default=0)
