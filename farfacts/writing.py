"""Policies, changes, and rows of them, written as texts."""

from farfacts.expressions import write_expression
from farfacts.values import write_value


def in_brackets(words):
    """The words with single spaces between them, in brackets."""
    return "(" + " ".join(words) + ")"


def write_scope(scope):
    """The scope as a text."""
    return "any" if scope[0] == "any" else in_brackets(scope)


def write_actions(actions):
    """The actions as a text."""
    return "any" if actions is None else in_brackets(actions)


def write_policy(policy):
    """The policy, or template, as a text."""
    name, effect, principal, actions, resource, condition = policy
    scopes = [write_scope(principal), write_actions(actions), write_scope(resource)]
    return in_brackets([effect, name] + scopes + [write_expression(condition)])


def write_change(change):
    """The change as a text."""
    kind = change[0]
    if kind in ("make", "under"):
        return in_brackets([kind, change[1]] + list(change[2]))
    if kind == "set":
        return in_brackets(list(change[:3]) + [write_value(change[3])])
    return in_brackets(change)


def write_book(policies):
    """The policies and templates, one in a line."""
    return "".join([write_policy(policy) + "\n" for policy in policies])


def write_changes(changes):
    """The changes, one in a line."""
    return "".join([write_change(change) + "\n" for change in changes])
