"""Links: policies that are made of templates."""

from farfacts.errors import SlotsDiffer
from farfacts.names import check_name, check_uid
from farfacts.policies import slots_of


def filled(scope, uid):
    """The scope with the uid in its slot; None leaves it as it is."""
    return scope if uid is None else (scope[0], uid)


def link_template(template, name, principal, resource):
    """The policy with this id that the template becomes with these uids (None where there is no slot)."""
    check_name(name, "id")
    if principal is not None:
        check_uid(principal, "principal")
    if resource is not None:
        check_uid(resource, "resource")
    if slots_of(template) != (principal is not None, resource is not None):
        raise SlotsDiffer("a slot lacks a uid, or there is a uid without a slot")
    _, effect, first, actions, second, condition = template
    return (name, effect, filled(first, principal), actions, filled(second, resource), condition)
