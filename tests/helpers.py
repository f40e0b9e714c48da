"""What several tests use: cases that look at errors and kinds, and expressions put together from parts."""

import re
import unittest

from farfacts.errors import ChangeRefused, OutOfRange, TextFault

OPERAND_COUNTS = {"get": 1, "has": 1, "is": 1, "not": 1, "and": 2, "or": 2, "if": 3,
                  "same": 2, "less": 2, "in": 2, "contains": 2}

# Every character that strings may have, without the newline.
SIGNS = [chr(code) for code in range(32, 127) if code != 37]
NAME_SIGNS = "abcdefghijklmnopqrstuvwxyz0123456789"


class Case(unittest.TestCase):
    maxDiff = None

    def exactly(self, found, wanted):
        """Equal, and of the same kinds throughout: True is not 1, a tuple is not a list."""
        self.assertEqual(repr(found), repr(wanted))

    def out_of_range(self, name, call, *args, **more):
        with self.assertRaises(OutOfRange) as caught:
            call(*args, **more)
        self.assertIs(type(caught.exception), OutOfRange)
        self.assertEqual(caught.exception.name, name)

    def fault(self, line, column, words, call, text):
        with self.assertRaises(TextFault, msg=text) as caught:
            call(text)
        found = (caught.exception.line, caught.exception.column, caught.exception.words)
        self.assertEqual(found, (line, column, words), msg=text)

    def refused(self, number, words, call, *args):
        with self.assertRaises(ChangeRefused) as caught:
            call(*args)
        self.assertEqual((caught.exception.number, caught.exception.words), (number, words))


def operand_count(node):
    return OPERAND_COUNTS.get(node[0], 0)


def moved(node, by):
    """The node with all its operands further on."""
    many = operand_count(node)
    return node[:1] + tuple(at + by for at in node[1:1 + many]) + node[1 + many:]


def lit(value):
    """The expression that is this value."""
    return (("value", value),)


def op(kind, *parts):
    """The expression of this operation over expressions, perhaps with a name behind them."""
    nodes, rest = [], []
    for part in parts:
        if isinstance(part, str):
            rest.append(part)
            continue
        by = len(nodes)
        nodes.extend(moved(node, by) for node in part)
        rest.append(len(nodes) - 1)
    return tuple(nodes) + ((kind,) + tuple(rest),)


def truth(what):
    return ("truth", what)


def number(what):
    return ("number", what)


def text(what):
    return ("text", what)


def entity(what):
    return ("entity", what)


def items(*scalars):
    return ("set", scalars)


YES = lit(truth(True))
NO = lit(truth(False))
PRINCIPAL = (("principal",),)
ACTION = (("action",),)
RESOURCE = (("resource",),)


def nots(many):
    """A chain of so many nodes: one value, and `not` over it again and again."""
    expression = YES
    for _ in range(many - 1):
        expression = op("not", expression)
    return expression


class Recorder:
    """A source that knows what a dict has, and notes what it is asked."""

    def __init__(self, known):
        self.known = known
        self.asked = []

    def tell(self, read):
        if read not in self.asked:
            self.asked.append(read)
        return self.known.get(read)


def known_of(base, reads):
    """What a source knows that knows just these reads of the database."""
    return {read: base.tell(read) for read in reads}


def tokens_of(written):
    """The tokens of a text without comments, as they stand in it."""
    return re.findall(r'"[^"\n]*"|[()]|[^ \n()"]+', written)


def tight(written):
    """The same tokens with as few gaps as can be."""
    text = ""
    for token in tokens_of(written):
        apart = text and text[-1] not in '()"' and token[0] not in '()"'
        text += " " + token if apart else token
    return text


def respaced(written):
    """The same tokens with other gaps and with comments between them."""
    row = tokens_of(written)
    return [written, tight(written)] + [gap + gap.join(row) + gap for gap in (
        " ", "   ", "\n", "\n\n \n  ", "# ( \"x )\n", " # yes no\n", "#\n", "\n# set\n", " #(((((\n ")]


def end_of(text):
    """The line and the column of the position after the last character."""
    lines = text.split("\n")
    return len(lines), len(lines[-1]) + 1
