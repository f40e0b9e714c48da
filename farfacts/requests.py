"""Requests: who wants to do what with which resource, and in what context."""

from farfacts.errors import OutOfRange
from farfacts.names import check_uid, kind_of
from farfacts.values import are_pairs, value_named

CONTEXT_MOST = 8


def check_request(request):
    """Refuses what is not a request within its bounds."""
    principal, action, resource, context = request
    check_uid(principal, "principal")
    check_uid(action, "action")
    check_uid(resource, "resource")
    if not are_pairs(context, CONTEXT_MOST):
        raise OutOfRange("context")


def request_kind(request):
    """The kind of the request."""
    return (kind_of(request[0]), request[1], kind_of(request[2]))


def context_value(request, name):
    """The value of this name in the context, or None."""
    return value_named(request[3], name)


def with_part(request, part, uid):
    """The request with this uid as its "principal" or "resource"."""
    principal, action, resource, context = request
    if part == "principal":
        return (uid, action, resource, context)
    return (principal, action, uid, context)
