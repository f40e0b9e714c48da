"""Expressions, evaluated for a request over a source."""

from farfacts.expressions import PARTS, operands
from farfacts.names import kind_of
from farfacts.requests import context_value

WRONG_KIND = ("fails", "wrong kind")
NO_ENTITY = ("fails", "no entity")
NO_ATTRIBUTE = ("fails", "no attribute")


def join_reads(one, two):
    """The list of the reads of one, and of those of two that are not among them."""
    reads = list(one)
    for read in two:
        if read not in reads:
            reads.append(read)
    return reads


def truth(what):
    """The outcome that is this truth."""
    return ("value", ("truth", what))


def leaf_outcome(node, request):
    """The outcome of a node without operands."""
    kind = node[0]
    if kind == "value":
        return ("value", node[1])
    if kind in PARTS:
        return ("value", ("entity", request[PARTS.index(kind)]))
    value = context_value(request, node[1])
    if kind == "given":
        return truth(value is not None)
    return NO_ATTRIBUTE if value is None else ("value", value)


def single_outcome(node, value):
    """The outcome of `is` or `not`, whose operand has this value."""
    kind, what = value
    if node[0] == "is":
        return truth(kind_of(what) == node[2]) if kind == "entity" else WRONG_KIND
    return truth(not what) if kind == "truth" else WRONG_KIND


def pair_outcome(node, one, two):
    """The outcome of `same`, `less` or `contains`, whose operands have these values."""
    if node[0] == "same":
        return truth(one == two)
    if node[0] == "less":
        if one[0] != "number" or two[0] != "number":
            return WRONG_KIND
        return truth(one[1] < two[1])
    if one[0] != "set" or two[0] == "set":
        return WRONG_KIND
    return truth(two in one[1])


def attribute_outcome(node, told):
    """The outcome of `get` or `has`, whose attribute is told so."""
    if node[0] == "has":
        return truth(told[0] == "value")
    if told[0] == "gone":
        return NO_ENTITY
    return NO_ATTRIBUTE if told[0] == "none" else ("value", told[1])


class Evaluation:
    """An expression that is evaluated, with what was read for it."""

    def __init__(self, expression, request, source):
        self.expression = expression
        self.request = request
        self.source = source
        # What was told to each read, in the order in which they were needed.
        self.answers = {}

    def ask(self, read):
        """What is told to the read, or None if the source does not know it."""
        if read not in self.answers:
            told = self.source.tell(read)
            if told is None:
                return None
            self.answers[read] = told
        return self.answers[read]

    def outcome(self, at):
        """The outcome of the node with this index."""
        node = self.expression[at]
        if node[0] in ("and", "or", "if"):
            return self.choice_outcome(node)
        values = []
        for below in operands(node):
            found = self.outcome(below)
            if found[0] != "value":
                return found
            values.append(found[1])
        return self.node_outcome(node, values)

    def choice_outcome(self, node):
        """The outcome of `and`, `or` or `if`, which do not evaluate all their operands."""
        first = self.outcome(node[1])
        if first[0] != "value":
            return first
        kind, what = first[1]
        if kind != "truth":
            return WRONG_KIND
        if node[0] == "if":
            return self.outcome(node[2] if what else node[3])
        if what == (node[0] == "or"):
            return first
        second = self.outcome(node[2])
        if second[0] == "value" and second[1][0] != "truth":
            return WRONG_KIND
        return second

    def node_outcome(self, node, values):
        """The outcome of a node all of whose operands have values."""
        kind = node[0]
        if not values:
            return leaf_outcome(node, self.request)
        if kind in ("get", "has"):
            return self.read_attribute(node, values[0])
        if kind == "in":
            return self.read_hierarchy(values[0], values[1])
        if kind in ("is", "not"):
            return single_outcome(node, values[0])
        return pair_outcome(node, values[0], values[1])

    def read_attribute(self, node, value):
        """The outcome of `get` or `has`, whose operand has this value."""
        if value[0] != "entity":
            return WRONG_KIND
        read = ("attribute", value[1], node[2])
        told = self.ask(read)
        return ("needs", read) if told is None else attribute_outcome(node, told)

    def read_hierarchy(self, one, two):
        """The outcome of `in`, whose operands have these values."""
        items = two[1] if two[0] == "set" else (two,)
        if not all([item[0] == "entity" for item in (one,) + items]):
            return WRONG_KIND
        if one in items or not items:
            return truth(one in items)
        read = ("ancestors", one[1])
        told = self.ask(read)
        if told is None:
            return ("needs", read)
        return truth(any([item[1] in told[1] for item in items]))


def evaluate(expression, request, source):
    """The outcome of the expression, and the list of the reads that were told for it."""
    evaluation = Evaluation(expression, request, source)
    outcome = evaluation.outcome(len(expression) - 1)
    return (outcome, list(evaluation.answers))
