"""Expressions: rows of nodes in which every operand stands before the node that uses it."""

from farfacts.errors import OutOfRange
from farfacts.names import is_name
from farfacts.values import is_value, write_value

NODES_MOST = 40

# The parts of a request, in the order in which they stand in it.
PARTS = ("principal", "action", "resource")

# For each operation: the word it is written with, how many operands it has, and whether a name follows them.
OPERATIONS = {
    "context": ("context", 0, True),
    "given": ("given", 0, True),
    "get": ("get", 1, True),
    "has": ("has", 1, True),
    "is": ("is", 1, True),
    "not": ("not", 1, False),
    "and": ("and", 2, False),
    "or": ("or", 2, False),
    "if": ("if", 3, False),
    "same": ("=", 2, False),
    "less": ("<", 2, False),
    "in": ("in", 2, False),
    "contains": ("contains", 2, False),
}


def operation_of(word):
    """The operation that is written with this word, or None."""
    for kind in OPERATIONS:
        if OPERATIONS[kind][0] == word:
            return kind
    return None


def operands(node):
    """The indexes of the operands of the node."""
    if node[0] not in OPERATIONS:
        return ()
    return node[1:1 + OPERATIONS[node[0]][1]]


def is_node(node):
    """Whether the node, without regard to its operands, is one."""
    kind = node[0]
    if kind in PARTS:
        return len(node) == 1
    if kind == "value":
        return len(node) == 2 and is_value(node[1])
    if kind not in OPERATIONS:
        return False
    _, many, named = OPERATIONS[kind]
    if named:
        return len(node) == many + 2 and is_name(node[-1])
    return len(node) == many + 1


def is_expression(expression):
    """Whether the nodes are an expression within its bounds."""
    if not 1 <= len(expression) <= NODES_MOST:
        return False
    row = []
    for at, node in enumerate(expression):
        if not is_node(node):
            return False
        used = operands(node)
        rest = len(row) - len(used)
        if rest < 0 or tuple(row[rest:]) != used:
            return False
        row = row[:rest] + [at]
    return len(row) == 1


def check_expression(expression, what="condition"):
    """Refuses what is not an expression within its bounds."""
    if not is_expression(expression):
        raise OutOfRange(what)


def starts(expression):
    """For each node, the index of the first node of its part."""
    firsts = []
    for at, node in enumerate(expression):
        used = operands(node)
        firsts.append(firsts[used[0]] if used else at)
    return firsts


def write_node(node, inner):
    """The node as a text, with the texts of its operands."""
    kind = node[0]
    if kind in PARTS:
        return kind
    if kind == "value":
        return write_value(node[1])
    word, _, named = OPERATIONS[kind]
    last = [node[-1]] if named else []
    return "(" + " ".join([word] + inner + last) + ")"


def write_expression(expression):
    """The expression as a text."""
    texts = []
    for node in expression:
        inner = [texts[at] for at in operands(node)]
        texts.append(write_node(node, inner))
    return texts[-1]
