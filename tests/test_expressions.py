import unittest

from farfacts import expressions
from farfacts.expressions import check_expression, operands, starts, write_expression
from helpers import ACTION, NO, PRINCIPAL, RESOURCE, YES, Case, entity, items, lit, nots, number, op, text, truth

CONTEXT = (("context", "age"),)
GIVEN = (("given", "age"),)

# Each kind of node at the end of an expression: the expression, operands of the last node, starts, written.
KINDS = (
    (YES, (), [0], "yes"),
    (lit(text("a b")), (), [0], '"a b"'),
    (lit(number(-5)), (), [0], "-5"),
    (lit(entity("user:bob")), (), [0], "@user:bob"),
    (lit(("set", ())), (), [0], "(set)"),
    (lit(items(number(1), number(2))), (), [0], "(set 1 2)"),
    (PRINCIPAL, (), [0], "principal"),
    (ACTION, (), [0], "action"),
    (RESOURCE, (), [0], "resource"),
    (CONTEXT, (), [0], "(context age)"),
    (GIVEN, (), [0], "(given age)"),
    (op("get", PRINCIPAL, "boss"), (0,), [0, 0], "(get principal boss)"),
    (op("has", RESOURCE, "tags"), (0,), [0, 0], "(has resource tags)"),
    (op("is", ACTION, "action"), (0,), [0, 0], "(is action action)"),
    (op("not", YES), (0,), [0, 0], "(not yes)"),
    (op("and", YES, NO), (0, 1), [0, 1, 0], "(and yes no)"),
    (op("or", NO, YES), (0, 1), [0, 1, 0], "(or no yes)"),
    (op("if", YES, NO, GIVEN), (0, 1, 2), [0, 1, 2, 0], "(if yes no (given age))"),
    (op("same", PRINCIPAL, ACTION), (0, 1), [0, 1, 0], "(= principal action)"),
    (op("less", lit(number(1)), lit(number(2))), (0, 1), [0, 1, 0], "(< 1 2)"),
    (op("in", PRINCIPAL, RESOURCE), (0, 1), [0, 1, 0], "(in principal resource)"),
    (op("contains", lit(("set", ())), PRINCIPAL), (0, 1), [0, 1, 0], "(contains (set) principal)"),
    (op("if", op("not", YES), op("and", NO, YES), op("get", op("get", PRINCIPAL, "a"), "b")), (1, 4, 7),
     [0, 0, 2, 3, 2, 5, 5, 5, 0], "(if (not yes) (and no yes) (get (get principal a) b))"),
    (op("or", op("and", YES, op("not", NO)), op("not", op("not", YES))), (3, 6), [0, 1, 1, 0, 4, 4, 4, 0],
     "(or (and yes (not no)) (not (not yes)))"),
    (op("and", op("same", op("get", PRINCIPAL, "x"), ACTION), YES), (3, 4), [0, 0, 2, 0, 4, 0],
     "(and (= (get principal x) action) yes)"),
)

EXAMPLE = (("principal",), ("resource",), ("get", 1, "owner"), ("get", 2, "manager"), ("same", 0, 3))

V = ("value", truth(True))

# Rows of nodes that are no expressions.
NONE = (
    (),
    (V, V),
    (V, V, V),
    (V, V, ("not", 1)),
    (("not", 0),),
    (("not", -1),),
    (("not", 1), V),
    (V, ("not", 1)),
    (V, ("not", 2)),
    (V, ("not", -1)),
    (V, ("and", 0, 0)),
    (V, ("and", 0, 1)),
    (V, ("and", -1, 0)),
    (("and", 0, 1),),
    (V, V, ("and", 1, 0)),
    (V, V, ("and", 0, 0)),
    (V, V, ("and", 1, 1)),
    (V, V, ("or", 1, 0)),
    (V, V, ("same", 1, 0)),
    (V, V, ("less", 1, 0)),
    (V, V, ("in", 1, 0)),
    (V, V, ("contains", 1, 0)),
    (V, V, ("not", 0)),
    (V, V, ("not", 0), ("and", 0, 2)),
    (V, V, ("not", 0), ("and", 2, 1)),
    (V, V, ("and", 0, 1), ("and", 0, 1)),
    (V, V, ("and", 0, 1), V),
    (V, V, V, ("and", 1, 2)),
    (V, V, V, ("and", 0, 1)),
    (V, V, V, ("and", 0, 2)),
    (V, V, V, ("if", 0, 2, 1)),
    (V, V, V, ("if", 1, 0, 2)),
    (V, V, V, ("if", 2, 1, 0)),
    (V, V, V, ("if", 1, 2, 0)),
    (V, V, V, ("if", 0, 1, 1)),
    (V, V, ("if", 0, 1, 1)),
    (V, V, ("if", 0, 1, 2)),
    (V, V, V, V, ("if", 0, 1, 2)),
    (V, V, V, V, ("if", 1, 2, 3)),
    (V, V, ("not", 1), ("and", 0, 1)),
    (V, ("not", 0), ("not", 0)),
    (V, ("not", 0), V, ("and", 0, 2)),
    (V, ("not", 0), ("and", 0, 1)),
    (("get", 0, "a"),),
    (("principal",), ("get", 1, "a")),
    (("principal",), ("has", 1, "a")),
    (("principal",), ("is", 1, "a")),
    (("principal",), ("principal",)),
    (("principal",), ("principal",), ("get", 0, "a")),
    EXAMPLE[:4],
    EXAMPLE + (V,),
    EXAMPLE[1:],
    (V,) + EXAMPLE,
)

BAD_NAMES = ("", "A", "a b", "abcdefghijklm", "a:b", "a-", "-a", "a_b", "?")
BAD_VALUES = (number(1000001), number(-1000001), text("x" * 41), text('"'), entity("bob"), entity("a:b:c"),
              items(number(2), number(1)), items(number(1), number(1)), items(items()),
              ("set", tuple(number(n) for n in range(9))))


def tree(many):
    """An expression of exactly so many nodes, bent to both sides."""
    if many == 1:
        return YES
    if many == 2:
        return op("not", NO)
    half = (many - 1) // 2
    return op("and", tree(half), tree(many - 1 - half))


class CheckTest(Case):
    def test_bound(self):
        self.exactly(expressions.NODES_MOST, 40)

    def test_expressions(self):
        for expression, _, _, _ in KINDS:
            self.assertIsNone(check_expression(expression))
            self.assertIsNone(check_expression(expression, "worth"))
        self.assertIsNone(check_expression(EXAMPLE))

    def test_numbers_of_nodes(self):
        for many in range(1, 60):
            for expression in (nots(many), tree(many)):
                self.assertEqual(len(expression), many)
                if many <= 40:
                    self.assertIsNone(check_expression(expression))
                else:
                    self.out_of_range("condition", check_expression, expression)

    def test_a_set_is_one_node(self):
        eight = lit(("set", tuple(number(n) for n in range(8))))
        expression = eight
        for _ in range(19):
            expression = op("same", expression, eight)
        self.assertEqual(len(expression), 39)
        self.assertIsNone(check_expression(expression))
        self.assertIsNone(check_expression(op("not", expression)))
        self.out_of_range("condition", check_expression, op("same", expression, eight))

    def test_rows_that_are_none(self):
        for row in NONE:
            self.out_of_range("condition", check_expression, row)
            self.out_of_range("worth", check_expression, row, "worth")
            self.out_of_range("expression", check_expression, expression=row, what="expression")

    def test_names(self):
        for name in BAD_NAMES:
            for expression in ((("context", name),), (("given", name),), op("get", PRINCIPAL, name),
                               op("has", PRINCIPAL, name), op("is", PRINCIPAL, name),
                               op("not", op("is", PRINCIPAL, name)), op("and", (("given", name),), YES)):
                self.out_of_range("condition", check_expression, expression)
        for name in ("a", "abcdefghijkl", "0", "principal"):
            for expression in ((("context", name),), (("given", name),), op("get", PRINCIPAL, name),
                               op("has", PRINCIPAL, name), op("is", PRINCIPAL, name)):
                self.assertIsNone(check_expression(expression))

    def test_values(self):
        for value in BAD_VALUES:
            for expression in (lit(value), op("not", lit(value)), op("same", lit(value), YES),
                               op("same", YES, lit(value)), op("if", YES, lit(value), YES)):
                self.out_of_range("condition", check_expression, expression)
                self.out_of_range("what", check_expression, expression, what="what")


class ShapeTest(Case):
    def test_operands(self):
        for expression, wanted, _, _ in KINDS:
            self.exactly(operands(expression[-1]), wanted)
        self.exactly([operands(node) for node in EXAMPLE], [(), (), (1,), (2,), (0, 3)])

    def test_starts(self):
        for expression, _, wanted, _ in KINDS:
            self.exactly(starts(expression), wanted)
        self.exactly(starts(EXAMPLE), [0, 1, 1, 1, 0])

    def test_starts_are_a_new_list(self):
        first = starts(EXAMPLE)
        first.append(7)
        first[0] = 9
        self.exactly(starts(EXAMPLE), [0, 1, 1, 1, 0])

    def test_written(self):
        for expression, _, _, wanted in KINDS:
            self.exactly(write_expression(expression), wanted)
        self.exactly(write_expression(EXAMPLE), "(= principal (get (get resource owner) manager))")


if __name__ == "__main__":
    unittest.main()
