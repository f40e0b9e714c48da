"""Values, expressions, books and changes, read from texts."""

from farfacts.cursor import Cursor
from farfacts.databases import PARENTS_MOST
from farfacts.expressions import NODES_MOST, OPERATIONS, PARTS, operation_of
from farfacts.names import is_uid
from farfacts.policies import ACTIONS_MOST, SLOT
from farfacts.values import NUMBER_MOST, SET_MOST, TEXT_MOST, make_set


def number_of(word):
    """The number that is the word, or None."""
    digits = word[1:] if word.startswith("-") else word
    # The length comes first: Python does not make integers of very long words.
    if not digits.isdigit() or len(digits) > len(str(NUMBER_MOST)):
        return None
    number = int(word)
    # Unnecessary zeros, and a zero with a sign, would not be written again.
    return number if abs(number) <= NUMBER_MOST and str(number) == word else None


def scalar_of(word):
    """The scalar that is the word, or None."""
    if word in ("yes", "no"):
        return ("truth", word == "yes")
    if word.startswith("@"):
        return ("entity", word[1:]) if is_uid(word[1:]) else None
    number = number_of(word)
    return None if number is None else ("number", number)


class Reader(Cursor):
    """Takes what the grammar names from the tokens of a text."""

    def __init__(self, text):
        super().__init__(text)
        # The nodes of the expression that is being read, and how many operations in it are not closed.
        self.nodes = []
        self.unclosed = 0

    def scalar_here(self):
        """The scalar that is the next token, which is not taken, or None."""
        quoted = self.quoted()
        if quoted is None:
            return scalar_of(self.word())
        return ("text", quoted) if len(quoted) <= TEXT_MOST else None

    def take_scalar(self, words):
        """Takes a scalar."""
        scalar = self.scalar_here()
        if scalar is None:
            self.refuse(words)
        self.skip()
        return scalar

    def take_items(self):
        """Takes what follows the word `set`, with the bracket behind it: a set."""
        items = []
        while self.kind() != ")":
            scalar = self.scalar_here()
            if scalar is not None and scalar not in items and len(items) == SET_MOST:
                self.refuse("too many scalars")
            self.take_scalar("expected a scalar")
            if scalar not in items:
                items.append(scalar)
        self.skip()
        return make_set(items)

    def take_value(self):
        """Takes a value."""
        if self.kind() != "(":
            return self.take_scalar("expected a value")
        self.skip()
        self.take_word(("set",), "expected a value")
        return self.take_items()

    def take_expression(self):
        """Takes an expression."""
        self.nodes = []
        self.take_part()
        return tuple(self.nodes)

    def take_part(self):
        """Takes an expression, or an operand, and puts its nodes behind those that were read."""
        if self.kind() == "(":
            self.nodes.append(self.take_operation())
        else:
            self.nodes.append(self.take_leaf())

    def begin_node(self):
        """Refuses the next token if too many nodes began before it."""
        if len(self.nodes) + self.unclosed >= NODES_MOST:
            self.refuse("too many nodes")

    def take_leaf(self):
        """Takes a node that is a single token."""
        scalar = self.scalar_here()
        if scalar is None and self.word() not in PARTS:
            self.refuse("expected an expression")
        self.begin_node()
        node = (self.word(),) if scalar is None else ("value", scalar)
        self.skip()
        return node

    def take_operation(self):
        """Takes a node in brackets, behind its operands."""
        word = self.word(1)
        kind = operation_of(word)
        if kind is None and word != "set":
            self.refuse("expected an operation", 1)
        self.begin_node()
        self.skip()
        self.skip()
        if kind is None:
            return ("value", self.take_items())
        return self.take_rest(kind)

    def take_rest(self, kind):
        """Takes what follows the word of an operation: its node."""
        _, many, named = OPERATIONS[kind]
        node = [kind]
        self.unclosed += 1
        for _ in range(many):
            self.take_part()
            node.append(len(self.nodes) - 1)
        self.unclosed -= 1
        if named:
            node.append(self.take_name())
        self.take_close()
        return tuple(node)

    def take_scope(self):
        """Takes a scope, perhaps with a slot."""
        if self.word() == "any":
            self.skip()
            return ("any",)
        self.take_kind("(", "expected a scope")
        kind = self.take_word(("is", "in", "kind"), "expected is, in or kind")
        if kind == "kind":
            part = self.take_name()
        elif self.word() == SLOT:
            part = SLOT
            self.skip()
        else:
            part = self.take_uid()
        self.take_close()
        return (kind, part)

    def take_actions(self):
        """Takes actions."""
        if self.word() == "any":
            self.skip()
            return None
        self.take_kind("(", "expected actions")
        if self.kind() == ")":
            self.refuse("expected a uid")
        return self.take_uids(ACTIONS_MOST, "too many actions")

    def take_policy(self):
        """Takes a policy."""
        self.take_kind("(", "expected (")
        effect = self.take_word(("permit", "forbid"), "expected permit or forbid")
        name = self.take_name()
        principal = self.take_scope()
        actions = self.take_actions()
        resource = self.take_scope()
        condition = self.take_expression()
        self.take_close()
        return (name, effect, principal, actions, resource, condition)

    def take_change(self):
        """Takes a change."""
        self.take_kind("(", "expected (")
        kind = self.take_word(("make", "drop", "set", "clear", "under"), "expected a change")
        uid = self.take_uid()
        if kind in ("make", "under"):
            # The uids end with the bracket of the change.
            return (kind, uid, self.take_uids(PARENTS_MOST, "too many parents"))
        change = (kind, uid)
        if kind in ("set", "clear"):
            change = change + (self.take_name(),)
        if kind == "set":
            change = change + (self.take_value(),)
        self.take_close()
        return change

    def take_end(self):
        """Refuses a token behind what was read alone."""
        if self.kind() != "end":
            self.refuse("expected the end")


def read_value(text):
    """The value that is written in the text."""
    reader = Reader(text)
    value = reader.take_value()
    reader.take_end()
    return value


def read_expression(text):
    """The expression that is written in the text."""
    reader = Reader(text)
    expression = reader.take_expression()
    reader.take_end()
    return expression


def read_book(text):
    """The list of the policies and templates that are written in the text."""
    reader = Reader(text)
    policies = []
    while reader.kind() != "end":
        policies.append(reader.take_policy())
    return policies


def read_changes(text):
    """The list of the changes that are written in the text."""
    reader = Reader(text)
    changes = []
    while reader.kind() != "end":
        changes.append(reader.take_change())
    return changes
