"""Stores: policies and templates, and the edits that change them and can be undone."""

from farfacts.errors import (NoSuchPolicy, NoSuchTemplate, OutOfRange, PolicyExists, TemplateExists, TooManyChanges,
                             TooManyPolicies, TooManyTemplates)
from farfacts.policies import check_policy, is_template
from farfacts.reading import read_book
from farfacts.templates import link_template
from farfacts.writing import write_book

POLICIES_MOST = 24
TEMPLATES_MOST = 8
EDITS_MOST = 60


def named(policies, name):
    """The policy, or template, with this id, or None."""
    for policy in policies:
        if policy[0] == name:
            return policy
    return None


def without(policies, name):
    """The policies, or templates, but the one with this id."""
    return tuple([policy for policy in policies if policy[0] != name])


def add_policy(state, policy):
    """The state with this policy behind the others."""
    policies, templates = state
    if named(policies, policy[0]) is not None:
        raise PolicyExists(f"there is a policy {policy[0]}")
    if len(policies) >= POLICIES_MOST:
        raise TooManyPolicies(f"there are {POLICIES_MOST} policies")
    return (policies + (policy,), templates)


def remove_policy(state, name):
    """The state without the policy with this id."""
    policies, templates = state
    if named(policies, name) is None:
        raise NoSuchPolicy(f"there is no policy {name}")
    return (without(policies, name), templates)


def add_template(state, template):
    """The state with this template behind the others."""
    policies, templates = state
    if not is_template(template):
        raise OutOfRange("slots")
    if named(templates, template[0]) is not None:
        raise TemplateExists(f"there is a template {template[0]}")
    if len(templates) >= TEMPLATES_MOST:
        raise TooManyTemplates(f"there are {TEMPLATES_MOST} templates")
    return (policies, templates + (template,))


def remove_template(state, name):
    """The state without the template with this id."""
    policies, templates = state
    if named(templates, name) is None:
        raise NoSuchTemplate(f"there is no template {name}")
    return (policies, without(templates, name))


def add_link(state, edit):
    """The state with the link behind the other policies."""
    _, template_name, name, principal, resource = edit
    template = named(state[1], template_name)
    if template is None:
        raise NoSuchTemplate(f"there is no template {template_name}")
    return add_policy(state, link_template(template, name, principal, resource))


def edited(state, edit):
    """The state behind the edit."""
    kind = edit[0]
    if kind == "add policy":
        check_policy(edit[1])
        return add_policy(state, edit[1])
    if kind == "remove policy":
        return remove_policy(state, edit[1])
    if kind == "add template":
        check_policy(edit[1], slots=True)
        return add_template(state, edit[1])
    if kind == "remove template":
        return remove_template(state, edit[1])
    return add_link(state, edit)


def with_edit(states, edit):
    """The states, and the one behind the edit."""
    state = edited(states[-1], edit)
    # The first state stands before all edits.
    if len(states) > EDITS_MOST:
        raise TooManyChanges(f"there are {EDITS_MOST} edits")
    return states + [state]


class Store:
    """Policies and templates in the order in which they were added."""

    def __init__(self):
        # The policies and templates before each edit, and at last those of now, so that undoing restores their order.
        self._states = [((), ())]

    def apply(self, edit):
        """Makes an edit; how many are made and not undone."""
        self._states = with_edit(self._states, edit)
        return self.edit_count()

    def load(self, text):
        """Makes an edit for each policy and template in the text, or none; how many it made."""
        states = self._states
        for policy in read_book(text):
            kind = "add template" if is_template(policy) else "add policy"
            states = with_edit(states, (kind, policy))
        many = len(states) - len(self._states)
        self._states = states
        return many

    def undo(self):
        """Takes back the latest edit that was not undone; whether there was one."""
        if self.edit_count() == 0:
            return False
        self._states = self._states[:-1]
        return True

    def policies(self):
        """The list of the policies."""
        return list(self._states[-1][0])

    def templates(self):
        """The list of the templates."""
        return list(self._states[-1][1])

    def edit_count(self):
        """How many edits are made and not undone."""
        return len(self._states) - 1

    def book(self):
        """The templates, then the policies, written."""
        return write_book(self.templates() + self.policies())
