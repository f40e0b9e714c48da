import itertools
import unittest

from farfacts.databases import Database
from farfacts.evaluating import evaluate, join_reads
from helpers import (ACTION, NO, PRINCIPAL, RESOURCE, YES, Case, Recorder, entity, items, lit, nots, number, op, text,
                     truth)

REQUEST = ("user:bob", "action:share", "doc:plan", (
    ("age", number(7)), ("boss", entity("user:ann")), ("none", ("set", ())), ("off", truth(False)), ("on", truth(True)),
    ("word", text("x"))))
BARE = ("user:bob", "action:share", "doc:plan", ())

BASE = [
    ("doc:plan", (("owner", entity("user:ann")), ("size", number(3)), ("tags", items(text("a"), text("b"))),
                  ("zero", truth(False))), ("folder:x",)),
    ("user:ann", (("age", number(40)), ("boss", entity("user:eve"))), ("group:staff",)),
    ("user:eve", (("boss", entity("user:none")),), ()),
    ("group:staff", (), ("group:all", "group:circle")),
    ("group:circle", (), ("group:staff",)),
    ("folder:x", (), ()),
]

# A value of each kind, and some more.
VALUES = (truth(False), truth(True), number(0), number(1), number(-5), text(""), text("a"), text("1"), entity("user:ann"),
          entity("doc:plan"), entity("group:all"), ("set", ()), items(number(1)), items(text("a"), text("b")),
          items(entity("group:all"), entity("user:ann")), items(entity("group:none")), items(truth(False), truth(True)),
          items(number(1), entity("user:ann")), items(entity("doc:plan"), entity("folder:x")))

WRONG = ("fails", "wrong kind")
NO_ENTITY = ("fails", "no entity")
NO_ATTRIBUTE = ("fails", "no attribute")

# Operands with each sort of outcome over the database, and their reads.
OPERANDS = (
    (YES, ("value", truth(True)), []),
    (NO, ("value", truth(False)), []),
    (op("has", RESOURCE, "owner"), ("value", truth(True)), [("attribute", "doc:plan", "owner")]),
    (op("has", RESOURCE, "nothing"), ("value", truth(False)), [("attribute", "doc:plan", "nothing")]),
    (op("get", RESOURCE, "zero"), ("value", truth(False)), [("attribute", "doc:plan", "zero")]),
    (lit(number(3)), ("value", number(3)), []),
    (op("get", RESOURCE, "size"), ("value", number(3)), [("attribute", "doc:plan", "size")]),
    (op("get", RESOURCE, "tags"), ("value", BASE[0][1][2][1]), [("attribute", "doc:plan", "tags")]),
    (op("get", RESOURCE, "owner"), ("value", entity("user:ann")), [("attribute", "doc:plan", "owner")]),
    (lit(("set", ())), ("value", ("set", ())), []),
    (lit(text("yes")), ("value", text("yes")), []),
    ((("context", "missing"),), NO_ATTRIBUTE, []),
    (op("get", RESOURCE, "nothing"), NO_ATTRIBUTE, [("attribute", "doc:plan", "nothing")]),
    (op("get", PRINCIPAL, "age"), NO_ENTITY, [("attribute", "user:bob", "age")]),
    (op("not", lit(number(1))), WRONG, []),
    (op("in", op("get", RESOURCE, "owner"), lit(entity("group:staff"))), ("value", truth(True)),
     [("attribute", "doc:plan", "owner"), ("ancestors", "user:ann")]),
    (op("in", PRINCIPAL, lit(entity("group:staff"))), ("value", truth(False)), [("ancestors", "user:bob")]),
)


def join(*rows):
    found = []
    for row in rows:
        found.extend(read for read in row if read not in found)
    return found


def kind_is(outcome, kind):
    return outcome[0] == "value" and outcome[1][0] == kind


class EvaluateCase(Case):
    def setUp(self):
        self.base = Database(BASE)

    def check(self, expression, outcome, reads=(), request=REQUEST):
        """Evaluated over the database, and over sources that know ever more of its reads."""
        reads = list(reads)
        self.exactly(evaluate(expression, request, self.base), (outcome, reads))
        known = {}
        for at, read in enumerate(reads):
            source = Recorder(dict(known))
            self.exactly(evaluate(expression, request, source), (("needs", read), reads[:at]))
            # Nothing is asked beyond the read that is needed.
            self.exactly(source.asked, reads[:at + 1])
            known[read] = self.base.tell(read)
        source = Recorder(known)
        self.exactly(evaluate(expression, request, source), (outcome, reads))
        self.exactly(source.asked, reads)


class JoinTest(Case):
    def test_joined(self):
        a, b, c = ("attribute", "a:a", "n"), ("attribute", "a:a", "m"), ("ancestors", "a:a")
        for one, two, wanted in (
                ([], [], []), ([a], [], [a]), ([], [a], [a]), ([a], [a], [a]), ([a, b], [b, c], [a, b, c]),
                ([b, a], [c], [b, a, c]), ([c], [b, a], [c, b, a]), ([a, b, c], [c, b, a], [a, b, c]),
                ([b], [a, b, c], [b, a, c]), ([a], [c, a, b], [a, c, b])):
            before = (list(one), list(two))
            found = join_reads(one, two)
            self.exactly(found, wanted)
            self.exactly((one, two), before)
            found.append(7)
            self.exactly((one, two), before)


class LeafTest(EvaluateCase):
    def test_values(self):
        for value in VALUES:
            self.check(lit(value), ("value", value))

    def test_parts(self):
        self.check(PRINCIPAL, ("value", entity("user:bob")))
        self.check(ACTION, ("value", entity("action:share")))
        self.check(RESOURCE, ("value", entity("doc:plan")))

    def test_context(self):
        for name, value in REQUEST[3]:
            self.check((("context", name),), ("value", value))
            self.check((("given", name),), ("value", truth(True)))
            self.check((("context", name),), NO_ATTRIBUTE, request=BARE)
            self.check((("given", name),), ("value", truth(False)), request=BARE)
        for name in ("missing", "ag", "agee", "principal"):
            self.check((("context", name),), NO_ATTRIBUTE)
            self.check((("given", name),), ("value", truth(False)))


class SingleTest(EvaluateCase):
    def test_get_and_has(self):
        for uid, name, found in (
                ("doc:plan", "owner", entity("user:ann")), ("doc:plan", "size", number(3)),
                ("doc:plan", "zero", truth(False)), ("doc:plan", "tags", items(text("a"), text("b"))),
                ("doc:plan", "nothing", NO_ATTRIBUTE), ("group:staff", "owner", NO_ATTRIBUTE),
                ("user:bob", "owner", NO_ENTITY), ("group:all", "age", NO_ENTITY), ("user:none", "boss", NO_ENTITY)):
            reads = [("attribute", uid, name)]
            there = found not in (NO_ATTRIBUTE, NO_ENTITY)
            self.check(op("get", lit(entity(uid)), name), ("value", found) if there else found, reads)
            self.check(op("has", lit(entity(uid)), name), ("value", truth(there)), reads)

    def test_get_and_has_of_parts(self):
        self.check(op("get", PRINCIPAL, "age"), NO_ENTITY, [("attribute", "user:bob", "age")])
        self.check(op("has", PRINCIPAL, "age"), ("value", truth(False)), [("attribute", "user:bob", "age")])
        self.check(op("get", ACTION, "age"), NO_ENTITY, [("attribute", "action:share", "age")])
        self.check(op("get", RESOURCE, "size"), ("value", number(3)), [("attribute", "doc:plan", "size")])
        self.check(op("get", op("context", "boss"), "age"), ("value", number(40)), [("attribute", "user:ann", "age")])

    def test_get_along_a_path(self):
        owner = op("get", RESOURCE, "owner")
        reads = [("attribute", "doc:plan", "owner"), ("attribute", "user:ann", "boss"), ("attribute", "user:eve", "boss"),
                 ("attribute", "user:none", "boss")]
        self.check(op("get", owner, "boss"), ("value", entity("user:eve")), reads[:2])
        self.check(op("get", op("get", owner, "boss"), "boss"), ("value", entity("user:none")), reads[:3])
        self.check(op("has", op("get", op("get", owner, "boss"), "boss"), "boss"), ("value", truth(False)), reads)
        self.check(op("get", op("get", op("get", owner, "boss"), "boss"), "boss"), NO_ENTITY, reads)
        self.check(op("get", op("get", RESOURCE, "size"), "boss"), WRONG, [("attribute", "doc:plan", "size")])
        self.check(op("get", op("get", RESOURCE, "nothing"), "boss"), NO_ATTRIBUTE, [("attribute", "doc:plan", "nothing")])
        self.check(op("has", op("get", PRINCIPAL, "boss"), "boss"), NO_ENTITY, [("attribute", "user:bob", "boss")])

    def test_operands_of_every_kind(self):
        for value in VALUES:
            kind, what = value
            if kind != "entity":
                self.check(op("get", lit(value), "owner"), WRONG)
                self.check(op("has", lit(value), "owner"), WRONG)
                self.check(op("is", lit(value), "user"), WRONG)
            if kind == "truth":
                self.check(op("not", lit(value)), ("value", truth(not what)))
            else:
                self.check(op("not", lit(value)), WRONG)

    def test_is(self):
        self.check(op("is", PRINCIPAL, "user"), ("value", truth(True)))
        self.check(op("is", PRINCIPAL, "bob"), ("value", truth(False)))
        self.check(op("is", PRINCIPAL, "use"), ("value", truth(False)))
        self.check(op("is", PRINCIPAL, "users"), ("value", truth(False)))
        self.check(op("is", ACTION, "action"), ("value", truth(True)))
        self.check(op("is", RESOURCE, "doc"), ("value", truth(True)))
        self.check(op("is", lit(entity("no:no")), "no"), ("value", truth(True)))

    def test_operands_that_are_no_values(self):
        for part, outcome, reads in OPERANDS:
            if outcome[0] != "value":
                for expression in (op("get", part, "a"), op("has", part, "a"), op("is", part, "a"), op("not", part)):
                    self.check(expression, outcome, reads)

    def test_chain(self):
        self.check(nots(40), ("value", truth(False)))
        self.check(nots(39), ("value", truth(True)))


class PairTest(EvaluateCase):
    def test_same(self):
        for one, two in itertools.product(VALUES, repeat=2):
            self.check(op("same", lit(one), lit(two)), ("value", truth(repr(one) == repr(two))))

    def test_less(self):
        for one, two in itertools.product(VALUES, repeat=2):
            if one[0] == two[0] == "number":
                self.check(op("less", lit(one), lit(two)), ("value", truth(one[1] < two[1])))
            else:
                self.check(op("less", lit(one), lit(two)), WRONG)
        for n in (-1000000, -10, -9, 0, 9, 10, 1000000):
            for m in (-1000000, -10, -9, 0, 9, 10, 1000000):
                self.check(op("less", lit(number(n)), lit(number(m))), ("value", truth(n < m)))

    def test_contains(self):
        for one, two in itertools.product(VALUES, repeat=2):
            if one[0] == "set" and two[0] != "set":
                wanted = ("value", truth(any(repr(item) == repr(two) for item in one[1])))
            else:
                wanted = WRONG
            self.check(op("contains", lit(one), lit(two)), wanted)

    def test_in(self):
        base = Database(BASE)
        for one, two in itertools.product(VALUES, repeat=2):
            row = two[1] if two[0] == "set" else (two,)
            reads = []
            if one[0] != "entity" or any(item[0] != "entity" for item in row):
                wanted = WRONG
            elif not row or one in row:
                wanted = ("value", truth(bool(row)))
            else:
                reads = [("ancestors", one[1])]
                wanted = ("value", truth(any(item[1] in base.ancestors(one[1]) for item in row)))
            self.check(op("in", lit(one), lit(two)), wanted, reads)

    def test_in_by_hand(self):
        ann, staff = lit(entity("user:ann")), lit(entity("group:staff"))
        read = [("ancestors", "user:ann")]
        self.check(op("in", ann, staff), ("value", truth(True)), read)
        self.check(op("in", ann, lit(entity("group:all"))), ("value", truth(True)), read)
        self.check(op("in", ann, ann), ("value", truth(True)))
        self.check(op("in", staff, ann), ("value", truth(False)), [("ancestors", "group:staff")])
        self.check(op("in", ann, lit(("set", ()))), ("value", truth(False)))
        self.check(op("in", lit(number(1)), lit(("set", ()))), WRONG)
        self.check(op("in", ann, lit(items(entity("user:ann"), entity("user:bob")))), ("value", truth(True)))
        self.check(op("in", ann, lit(items(entity("a:a"), entity("user:ann")))), ("value", truth(True)))
        self.check(op("in", ann, lit(items(entity("a:a"), entity("group:staff")))), ("value", truth(True)), read)
        self.check(op("in", ann, lit(items(entity("group:staff"), entity("z:z")))), ("value", truth(True)), read)
        self.check(op("in", ann, lit(items(entity("a:a"), entity("z:z")))), ("value", truth(False)), read)
        self.check(op("in", ann, lit(items(number(1), entity("user:ann")))), WRONG)
        self.check(op("in", ann, lit(items(text("x"), entity("z:z")))), WRONG)
        self.check(op("in", lit(entity("no:no")), staff), ("value", truth(False)), [("ancestors", "no:no")])
        self.check(op("in", lit(entity("group:circle")), lit(entity("group:circle"))), ("value", truth(True)))
        self.check(op("in", lit(entity("group:circle")), staff), ("value", truth(True)), [("ancestors", "group:circle")])

    def test_both_operands_are_evaluated(self):
        for kind in ("same", "less", "in", "contains"):
            for one, two in itertools.product(OPERANDS, repeat=2):
                if one[1][0] != "value":
                    self.check(op(kind, one[0], two[0]), one[1], one[2])
                elif two[1][0] != "value":
                    self.check(op(kind, one[0], two[0]), two[1], join(one[2], two[2]))
                elif kind == "same":
                    wanted = ("value", truth(repr(one[1]) == repr(two[1])))
                    self.check(op(kind, one[0], two[0]), wanted, join(one[2], two[2]))
                elif kind == "less":
                    number_ = kind_is(one[1], "number") and kind_is(two[1], "number")
                    self.check(op(kind, one[0], two[0]), ("value", truth(False)) if number_ else WRONG, join(one[2], two[2]))


class ChoiceTest(EvaluateCase):
    def test_and_or(self):
        for kind, short in (("and", False), ("or", True)):
            for one, two in itertools.product(OPERANDS, repeat=2):
                if one[1][0] != "value":
                    wanted, reads = one[1], one[2]
                elif not kind_is(one[1], "truth"):
                    wanted, reads = WRONG, one[2]
                elif one[1][1][1] == short:
                    wanted, reads = ("value", truth(short)), one[2]
                else:
                    reads = join(one[2], two[2])
                    wanted = WRONG if two[1][0] == "value" and not kind_is(two[1], "truth") else two[1]
                self.check(op(kind, one[0], two[0]), wanted, reads)

    def test_if(self):
        for one, two, three in itertools.product(OPERANDS, OPERANDS, OPERANDS[::3]):
            if one[1][0] != "value":
                wanted, reads = one[1], one[2]
            elif not kind_is(one[1], "truth"):
                wanted, reads = WRONG, one[2]
            else:
                chosen, other = (two, three) if one[1][1][1] else (three, two)
                wanted, reads = chosen[1], join(one[2], chosen[2])
            self.check(op("if", one[0], two[0], three[0]), wanted, reads)

    def test_what_is_not_evaluated(self):
        bad = op("get", PRINCIPAL, "age")
        self.check(op("and", NO, bad), ("value", truth(False)))
        self.check(op("or", YES, bad), ("value", truth(True)))
        self.check(op("if", YES, NO, bad), ("value", truth(False)))
        self.check(op("if", NO, bad, YES), ("value", truth(True)))
        self.check(op("and", lit(number(1)), bad), WRONG)
        self.check(op("or", lit(("set", ())), bad), WRONG)
        self.check(op("if", lit(text("yes")), bad, bad), WRONG)
        self.check(op("and", op("context", "missing"), bad), NO_ATTRIBUTE)
        self.check(op("same", op("context", "missing"), bad), NO_ATTRIBUTE)
        self.check(op("and", YES, lit(number(1))), WRONG)
        self.check(op("or", NO, lit(entity("user:ann"))), WRONG)
        self.check(op("if", YES, lit(number(1)), bad), ("value", number(1)))


class ReadsTest(EvaluateCase):
    def test_each_read_once(self):
        size = op("get", RESOURCE, "size")
        owner = op("get", RESOURCE, "owner")
        self.check(op("same", size, size), ("value", truth(True)), [("attribute", "doc:plan", "size")])
        self.check(op("and", op("has", RESOURCE, "owner"), op("in", owner, owner)), ("value", truth(True)),
                   [("attribute", "doc:plan", "owner")])
        self.check(op("and", op("less", size, op("get", owner, "age")), op("less", op("get", owner, "age"), size)),
                   ("value", truth(False)),
                   [("attribute", "doc:plan", "size"), ("attribute", "doc:plan", "owner"), ("attribute", "user:ann", "age")])
        self.check(op("or", op("in", owner, lit(entity("a:a"))), op("in", owner, lit(entity("group:all")))),
                   ("value", truth(True)), [("attribute", "doc:plan", "owner"), ("ancestors", "user:ann")])

    def test_order_of_reads(self):
        first, second = op("has", RESOURCE, "b"), op("has", RESOURCE, "a")
        b, a = ("attribute", "doc:plan", "b"), ("attribute", "doc:plan", "a")
        self.check(op("same", first, second), ("value", truth(True)), [b, a])
        self.check(op("same", second, first), ("value", truth(True)), [a, b])
        self.check(op("or", op("or", second, first), second), ("value", truth(False)), [a, b])
        self.check(op("same", op("in", ACTION, RESOURCE), op("in", RESOURCE, ACTION)), ("value", truth(True)),
                   [("ancestors", "action:share"), ("ancestors", "doc:plan")])

    def test_the_list_of_reads_is_new(self):
        expression = op("has", RESOURCE, "b")
        found = evaluate(expression, REQUEST, self.base)
        found[1].append(7)
        self.exactly(evaluate(expression, REQUEST, self.base)[1], [("attribute", "doc:plan", "b")])

    def test_example(self):
        base = Database([("doc:plan", (("owner", entity("user:ann")),), ()), ("user:ann", (), ("group:staff",))])
        one = op("in", op("get", RESOURCE, "owner"), lit(entity("group:staff")))
        self.exactly(evaluate(one, BARE, base),
                     (("value", truth(True)), [("attribute", "doc:plan", "owner"), ("ancestors", "user:ann")]))
        two = op("or", op("has", RESOURCE, "tags"), op("get", PRINCIPAL, "age"))
        self.exactly(evaluate(two, BARE, base),
                     (NO_ENTITY, [("attribute", "doc:plan", "tags"), ("attribute", "user:bob", "age")]))
        nothing = Recorder({})
        self.exactly(evaluate(one, BARE, nothing), (("needs", ("attribute", "doc:plan", "owner")), []))
        self.exactly(evaluate(two, BARE, nothing), (("needs", ("attribute", "doc:plan", "tags")), []))
        some = Recorder({("attribute", "doc:plan", "owner"): ("value", entity("user:ann"))})
        self.exactly(evaluate(one, BARE, some),
                     (("needs", ("ancestors", "user:ann")), [("attribute", "doc:plan", "owner")]))

    def test_a_source_that_knows_other_reads(self):
        known = {("ancestors", "user:ann"): ("above", ()), ("attribute", "doc:plan", "tags"): ("gone",)}
        one = op("in", op("get", RESOURCE, "owner"), lit(entity("group:staff")))
        self.exactly(evaluate(one, BARE, Recorder(known)), (("needs", ("attribute", "doc:plan", "owner")), []))
        two = op("or", op("has", RESOURCE, "tags"), op("get", PRINCIPAL, "age"))
        self.exactly(evaluate(two, BARE, Recorder(known)),
                     (("needs", ("attribute", "user:bob", "age")), [("attribute", "doc:plan", "tags")]))
        three = op("if", op("has", RESOURCE, "owner"), op("has", RESOURCE, "tags"), NO)
        self.exactly(evaluate(three, BARE, Recorder(known)), (("needs", ("attribute", "doc:plan", "owner")), []))
        self.exactly(evaluate(op("get", RESOURCE, "tags"), BARE, Recorder(known)),
                     (NO_ENTITY, [("attribute", "doc:plan", "tags")]))

    def test_a_need_ends_the_evaluation(self):
        for kind in ("and", "or", "same", "less", "in", "contains"):
            source = Recorder({})
            found = evaluate(op(kind, op("get", RESOURCE, "b"), op("get", RESOURCE, "a")), BARE, source)
            self.exactly(found, (("needs", ("attribute", "doc:plan", "b")), []))
            self.exactly(source.asked, [("attribute", "doc:plan", "b")])
        source = Recorder({})
        found = evaluate(op("if", op("get", RESOURCE, "b"), op("get", RESOURCE, "a"), YES), BARE, source)
        self.exactly(found, (("needs", ("attribute", "doc:plan", "b")), []))
        self.exactly(source.asked, [("attribute", "doc:plan", "b")])


if __name__ == "__main__":
    unittest.main()
