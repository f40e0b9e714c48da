import unittest

from farfacts.paths import expression_manifest, node_paths, split_path
from farfacts.reading import read_expression
from helpers import (ACTION, NO, PRINCIPAL, RESOURCE, YES, Case, entity, items, lit, nots, number, op, operand_count, text,
                     truth)
from worlds import World

BOB = lit(entity("user:bob"))
OWNER = op("get", RESOURCE, "owner")
BOSS = op("context", "boss")


def slow_paths(expression, at):
    """The paths of the node with this index, by the words of the document."""
    node = expression[at]
    kind = node[0]
    if kind == "value":
        return [node[1][1]] if node[1][0] == "entity" else []
    if kind in ("principal", "action", "resource"):
        return [kind]
    if kind == "context":
        return ["context." + node[1]]
    if kind == "get":
        return [path + "." + node[2] for path in slow_paths(expression, node[1])]
    if kind == "if":
        first, second = slow_paths(expression, node[2]), slow_paths(expression, node[3])
        return first + [path for path in second if path not in first]
    return []


def slow_manifest(expression):
    attributes, ancestors = [], []
    for node in expression:
        if node[0] in ("get", "has"):
            for path in slow_paths(expression, node[1]):
                if path + "." + node[2] not in attributes:
                    attributes.append(path + "." + node[2])
        if node[0] == "in":
            ancestors.extend(path for path in slow_paths(expression, node[1]) if path not in ancestors)
    return (tuple(attributes), tuple(ancestors))


class SplitTest(Case):
    def test_roots(self):
        for root in ("principal", "action", "resource", "context.n", "context.principal", "context.context", "user:bob",
                     "a:b", "context:n", "principal:n", "1:2"):
            self.exactly(split_path(root), (root, ()))
            self.exactly(split_path(root + ".owner"), (root, ("owner",)))
            self.exactly(split_path(root + ".owner.boss.owner"), (root, ("owner", "boss", "owner")))
            self.exactly(split_path(root + ".context.n"), (root, ("context", "n")))
            self.exactly(split_path(root + ".principal"), (root, ("principal",)))


class NodeTest(Case):
    def test_leaves(self):
        for expression, paths in ((PRINCIPAL, ("principal",)), (ACTION, ("action",)), (RESOURCE, ("resource",)),
                                  (BOSS, ("context.boss",)), (op("given", "boss"), ()), (BOB, ("user:bob",)), (YES, ()),
                                  (lit(number(1)), ()), (lit(text("user:bob")), ()), (lit(("set", ())), ()),
                                  (lit(items(entity("user:bob"))), ()), (lit(truth(False)), ())):
            self.exactly(node_paths(expression), [paths])

    def test_operations(self):
        for expression, last in (
                (OWNER, ("resource.owner",)), (op("get", BOSS, "boss"), ("context.boss.boss",)),
                (op("get", op("get", BOB, "a"), "b"), ("user:bob.a.b",)), (op("get", YES, "a"), ()),
                (op("has", RESOURCE, "owner"), ()), (op("is", RESOURCE, "doc"), ()), (op("not", BOSS), ()),
                (op("and", BOSS, BOSS), ()), (op("or", BOSS, BOB), ()), (op("same", BOB, BOB), ()), (op("less", BOB, BOB), ()),
                (op("in", PRINCIPAL, BOB), ()), (op("contains", BOSS, BOB), ()),
                (op("get", op("or", BOSS, BOB), "a"), ())):
            self.exactly(node_paths(expression)[-1], last)

    def test_if(self):
        for one, two, paths in (
                (PRINCIPAL, RESOURCE, ("principal", "resource")), (RESOURCE, PRINCIPAL, ("resource", "principal")),
                (BOB, BOB, ("user:bob",)), (YES, BOB, ("user:bob",)), (BOB, YES, ("user:bob",)), (YES, NO, ()),
                (op("if", YES, BOB, PRINCIPAL), op("if", NO, PRINCIPAL, RESOURCE), ("user:bob", "principal", "resource")),
                (op("if", YES, RESOURCE, PRINCIPAL), op("if", NO, PRINCIPAL, RESOURCE), ("resource", "principal")),
                (op("get", op("if", YES, BOB, BOSS), "a"), op("get", BOSS, "a"), ("user:bob.a", "context.boss.a"))):
            # The paths of the first operand are none of its own.
            for test in (YES, ACTION, op("in", ACTION, ACTION)):
                self.exactly(node_paths(op("if", test, one, two))[-1], paths)
                self.exactly(node_paths(op("get", op("if", test, one, two), "x"))[-1], tuple(path + ".x" for path in paths))

    def test_one_for_each_node(self):
        expression = op("if", op("in", PRINCIPAL, BOB), OWNER, op("get", BOSS, "boss"))
        self.exactly(node_paths(expression), [
            ("principal",), ("user:bob",), (), ("resource",), ("resource.owner",), ("context.boss",), ("context.boss.boss",),
            ("resource.owner", "context.boss.boss")])
        self.exactly(node_paths(nots(40)), [()] * 40)

    def test_by_the_words_of_the_document(self):
        world = World(38)
        for _ in range(400):
            expression = world.expression()
            wanted = [tuple(slow_paths(expression, at)) for at in range(len(expression))]
            found = node_paths(expression)
            self.exactly(found, wanted)
            found.append(())
            self.exactly(node_paths(expression), wanted)
            self.exactly(expression_manifest(expression), slow_manifest(expression))
            self.assertTrue(all(len(wanted[at]) == 0 for at, node in enumerate(expression)
                                if operand_count(node) and node[0] not in ("get", "if")))


class ManifestTest(Case):
    def check(self, expression, attributes, ancestors=()):
        self.exactly(expression_manifest(expression), (attributes, ancestors))

    def test_example(self):
        self.check((("principal",), ("resource",), ("get", 1, "owner"), ("get", 2, "manager"), ("same", 0, 3)),
                   ("resource.owner", "resource.owner.manager"))

    def test_attributes(self):
        self.check(YES, ())
        self.check(PRINCIPAL, ())
        self.check(op("context", "n"), ())
        self.check(op("given", "n"), ())
        self.check(op("is", PRINCIPAL, "user"), ())
        self.check(OWNER, ("resource.owner",))
        self.check(op("has", OWNER, "boss"), ("resource.owner", "resource.owner.boss"))
        self.check(op("has", BOSS, "level"), ("context.boss.level",))
        self.check(op("get", BOB, "level"), ("user:bob.level",))
        self.check(op("get", YES, "level"), ())
        self.check(op("has", op("has", PRINCIPAL, "a"), "b"), ("principal.a",))
        self.check(op("get", op("get", op("get", ACTION, "a"), "b"), "c"), ("action.a", "action.a.b", "action.a.b.c"))

    def test_ancestors(self):
        self.check(op("in", PRINCIPAL, BOB), (), ("principal",))
        self.check(op("in", BOB, PRINCIPAL), (), ("user:bob",))
        self.check(op("in", OWNER, BOSS), ("resource.owner",), ("resource.owner",))
        self.check(op("in", PRINCIPAL, OWNER), ("resource.owner",), ("principal",))
        self.check(op("in", YES, PRINCIPAL), ())
        self.check(op("in", op("if", YES, OWNER, BOSS), BOB), ("resource.owner",), ("resource.owner", "context.boss"))
        self.check(op("contains", PRINCIPAL, RESOURCE), ())
        self.check(op("in", lit(items(entity("user:bob"))), PRINCIPAL), ())

    def test_order_and_each_once(self):
        self.check(op("or", op("has", RESOURCE, "b"), op("has", RESOURCE, "a")), ("resource.b", "resource.a"))
        self.check(op("or", op("has", RESOURCE, "a"), op("has", RESOURCE, "b")), ("resource.a", "resource.b"))
        self.check(op("and", op("has", RESOURCE, "a"), op("and", op("get", RESOURCE, "b"), op("get", RESOURCE, "a"))),
                   ("resource.a", "resource.b"))
        self.check(op("or", op("in", RESOURCE, BOB), op("or", op("in", PRINCIPAL, BOB), op("in", RESOURCE, PRINCIPAL))),
                   (), ("resource", "principal"))
        self.check(op("has", op("if", op("has", PRINCIPAL, "z"), RESOURCE, PRINCIPAL), "z"), ("principal.z", "resource.z"))
        self.check(op("get", op("if", op("in", PRINCIPAL, OWNER), OWNER, PRINCIPAL), "a"),
                   ("resource.owner", "resource.owner.a", "principal.a"), ("principal",))

    def test_as_it_is_read(self):
        self.check(read_expression("(and (has (if (in principal @t:a) (get resource owner) (context boss)) level)"
                                   " (in (get (context boss) team) (set @t:a @t:b)))"),
                   ("resource.owner", "resource.owner.level", "context.boss.level", "context.boss.team"),
                   ("principal", "context.boss.team"))


if __name__ == "__main__":
    unittest.main()
