import unittest

from farfacts.expressions import check_expression, write_expression
from farfacts.reading import read_book, read_changes, read_expression, read_value
from farfacts.values import write_value
from farfacts.writing import write_book, write_changes
from helpers import (ACTION, NO, PRINCIPAL, RESOURCE, YES, Case, end_of, entity, items, lit, nots, number, op, respaced,
                     text, truth)

VALUES = (
    ("yes", truth(True)), ("no", truth(False)), ("0", number(0)), ("7", number(7)), ("10", number(10)),
    ("-1", number(-1)), ("-10", number(-10)), ("1000000", number(1000000)), ("-1000000", number(-1000000)),
    ("999999", number(999999)), ('""', text("")), ('"a"', text("a")), ('"yes"', text("yes")), ('"7"', text("7")),
    ('"a  b"', text("a  b")), ('"(set) # no"', text("(set) # no")), ('"' + "x" * 40 + '"', text("x" * 40)),
    ("@user:bob", entity("user:bob")), ("@a:1", entity("a:1")),
    ("@abcdefghijkl:123456789012", entity("abcdefghijkl:123456789012")), ("(set)", ("set", ())),
    ("(set 1)", items(number(1))), ('(set no 2 "a b" @user:bob)',
                                    items(truth(False), number(2), text("a b"), entity("user:bob"))),
    ("(set no yes)", items(truth(False), truth(True))), ('(set "" "(" "set")', items(text(""), text("("), text("set"))),
    ("(set -3 -2 -1 0 1 2 3 4)", ("set", tuple(number(n) for n in range(-3, 5)))),
)

# Tokens that look like scalars.
NEARLY = ("-0", "01", "-01", "00", "000000", "1000001", "-1000001", "9999999", "-9999999", "12345678", "9" * 30,
          "-" + "9" * 30, "9" * 6000, "+1", "1.0", "1e3", "1_0", "0x1", "--1", "-", "1-", "1a", "a1", "Yes", "NO", "YES",
          "true", "yess", "no.", "None", '"' + "x" * 41 + '"', '"' + " " * 41 + '"', '"' + "x" * 200 + '"', "@", "@bob",
          "@user:", "@:bob", "@:", "@user:bob:x", "@@user:bob", "@User:bob", "@user:Bob", "user:bob", "bob", "@user.bob",
          "@abcdefghijklm:a", "@a:abcdefghijklm", "@user:bob@", "?", "*", "any", "set", "principal", "''", "'a'", "]")

EXPRESSIONS = (
    YES, NO, PRINCIPAL, ACTION, RESOURCE, lit(number(-12)), lit(text("a b")), lit(entity("user:bob")), lit(("set", ())),
    lit(items(number(1), text("1"))), (("context", "age"),), (("given", "age"),), (("context", "context"),),
    op("get", PRINCIPAL, "boss"), op("has", RESOURCE, "get"), op("is", ACTION, "is"), op("not", YES), op("and", YES, NO),
    op("or", NO, YES), op("if", YES, NO, PRINCIPAL), op("same", PRINCIPAL, ACTION),
    op("less", lit(number(1)), lit(number(2))), op("in", PRINCIPAL, lit(items(entity("a:b"), entity("b:a")))),
    op("contains", lit(("set", ())), PRINCIPAL), op("same", PRINCIPAL, op("get", op("get", RESOURCE, "owner"), "boss")),
    op("if", op("not", YES), op("and", NO, YES), op("or", op("given", "a"), op("has", op("get", PRINCIPAL, "b"), "c"))),
    op("and", op("less", op("context", "x"), lit(number(3))), op("contains", op("get", RESOURCE, "tags"), lit(text("")))),
    op("if", op("is", PRINCIPAL, "user"), op("in", ACTION, RESOURCE), op("same", lit(("set", ())), lit(("set", ())))),
    nots(40), nots(39),
)

FULL = ("action:a", "action:b", "action:c", "action:d", "action:e", "action:f", "action:g", "action:h")

POLICIES = (
    ("owner", "permit", ("any",), ("action:read", "action:share"), ("kind", "doc"),
     op("same", PRINCIPAL, op("get", RESOURCE, "owner"))),
    ("all", "permit", ("any",), None, ("any",), YES),
    ("p1", "forbid", ("is", "user:bob"), ("action:read",), ("in", "folder:x"), op("not", op("given", "vpn"))),
    ("p2", "forbid", ("in", "group:staff"), None, ("is", "doc:plan"), lit(items(number(1), number(2)))),
    ("p3", "permit", ("kind", "user"), FULL, ("any",), op("is", PRINCIPAL, "user")),
    ("t1", "permit", ("is", "?"), None, ("any",), NO),
    ("t2", "forbid", ("any",), ("a:b",), ("in", "?"), YES),
    ("t3", "permit", ("in", "?"), ("a:b", "b:a"), ("is", "?"), nots(40)),
    ("any", "permit", ("kind", "kind"), ("any:any",), ("kind", "is"), PRINCIPAL),
    ("permit", "forbid", ("is", "is:in"), None, ("kind", "12"), op("context", "n")),
    ("same", "permit", ("any",), None, ("any",), YES),
    ("same", "permit", ("any",), None, ("any",), YES),
)

CHANGES = (
    ("make", "user:bob", ()), ("make", "user:bob", ("group:a",)), ("make", "user:bob", ("group:a", "user:ann", "user:bob")),
    ("make", "a:a", ("a:1", "a:2", "a:3", "a:4", "a:5", "a:6")), ("drop", "user:bob"), ("drop", "make:drop"),
    ("set", "user:bob", "age", number(7)), ("set", "user:bob", "set", truth(True)), ("set", "a:b", "x", text("a b")),
    ("set", "a:b", "x", entity("a:b")), ("set", "a:b", "x", ("set", ())), ("set", "a:b", "x", items(number(-1), text("x"))),
    ("clear", "user:bob", "age"), ("under", "user:bob", ()), ("under", "user:bob", ("group:a", "group:b")),
    ("under", "user:bob", ("g:1", "g:2", "g:3", "g:4", "g:5", "g:6")), ("drop", "user:bob"),
)


class ValueTest(Case):
    def test_values(self):
        for written, value in VALUES:
            for loose in respaced(written):
                self.exactly(read_value(loose), value)

    def test_what_was_written(self):
        for _, value in VALUES:
            for loose in respaced(write_value(value)):
                self.exactly(read_value(loose), value)

    def test_each_number_of_some(self):
        for n in list(range(-120, 121)) + [999998, 999999, 1000000]:
            self.exactly(read_value(str(n)), number(n))
        for n in range(1000001, 1000030):
            self.fault(1, 1, "expected a value", read_value, str(n))
            self.fault(1, 1, "expected a value", read_value, str(-n))

    def test_nearly(self):
        for word in NEARLY:
            self.fault(1, 1, "expected a value", read_value, word)
            self.fault(2, 3, "expected a value", read_value, "\n  " + word + " yes")
            self.fault(1, 6, "expected a scalar", read_value, "(set " + word + ")")
            self.fault(1, 8, "expected a scalar", read_value, "(set 1 " + word + " 2)")

    def test_order_of_items(self):
        for written, value in (("(set 2 1)", items(number(1), number(2))), ("(set 1 1)", items(number(1))),
                               ('(set @a:b "x" 3 yes no)', items(truth(False), truth(True), number(3), text("x"), entity("a:b"))),
                               ("(set 10 9 -1 -2)", items(number(-2), number(-1), number(9), number(10))),
                               ('(set "b" "a b" "a" "b")', items(text("a"), text("a b"), text("b"))),
                               ("(set yes yes yes)", items(truth(True))),
                               ('(set 1 yes "1" 1 @a:1)', items(truth(True), number(1), text("1"), entity("a:1"))),
                               ("(set @b:a @a:b @a1:b @a:b)", items(entity("a1:b"), entity("a:b"), entity("b:a"))),
                               ("(set 8 7 6 5 4 3 2 1 1 8)", ("set", tuple(number(n) for n in range(1, 9))))):
            for loose in respaced(written):
                self.exactly(read_value(loose), value)

    def test_too_many_scalars(self):
        self.fault(1, 22, "too many scalars", read_value, "(set 1 2 3 4 5 6 7 8 9)")
        self.fault(1, 22, "too many scalars", read_value, "(set 1 2 3 4 5 6 7 8 9 foo")
        self.fault(1, 24, "too many scalars", read_value, "(set 9 9 8 7 6 5 4 3 2 1)")
        self.fault(2, 2, "too many scalars", read_value, '(set 1 2 3 4 5 6 7 8 8 1\n "x" 9)')
        self.fault(1, 22, "expected a scalar", read_value, "(set 1 2 3 4 5 6 7 8 ]")
        self.fault(1, 22, "expected a scalar", read_value, "(set 1 2 3 4 5 6 7 8 (set))")
        self.fault(1, 22, "expected a scalar", read_value, "(set 1 2 3 4 5 6 7 8 ")
        self.exactly(read_value("(set 1 2 3 4 5 6 7 8 8 7 6 5)"), ("set", tuple(number(n) for n in range(1, 9))))

    def test_text_that_is_too_long(self):
        self.out_of_range("text", read_value, "yes" + " " * 11998)
        self.exactly(read_value("yes" + " " * 11997), truth(True))
        self.fault(1, 12001, "text is not closed", read_value, "yes" + " " * 11996 + '"')


class ExpressionTest(Case):
    def test_what_was_written(self):
        for expression in EXPRESSIONS:
            check_expression(expression)
            for loose in respaced(write_expression(expression)):
                self.exactly(read_expression(loose), expression)

    def test_values(self):
        for written, value in VALUES:
            for loose in respaced(written):
                self.exactly(read_expression(loose), lit(value))
            self.exactly(read_expression("(= " + written + " yes)"), op("same", lit(value), YES))

    def test_written_by_hand(self):
        for written, expression in (
                ("principal", (("principal",),)), ("(get resource owner)", (("resource",), ("get", 0, "owner"))),
                ("(= principal (get (get resource owner) manager))",
                 (("principal",), ("resource",), ("get", 1, "owner"), ("get", 2, "manager"), ("same", 0, 3))),
                ("(< 1 2)", (("value", number(1)), ("value", number(2)), ("less", 0, 1))),
                ("(if (given a) (context a) no)",
                 (("given", "a"), ("context", "a"), ("value", truth(False)), ("if", 0, 1, 2))),
                ("(contains (set 2 1) 1)",
                 (("value", items(number(1), number(2))), ("value", number(1)), ("contains", 0, 1))),
                ("(or (in principal resource) (and (is action x) (has resource y)))",
                 (("principal",), ("resource",), ("in", 0, 1), ("action",), ("is", 3, "x"), ("resource",), ("has", 5, "y"),
                  ("and", 4, 6), ("or", 2, 7))),
                ("(not (not yes))", (("value", truth(True)), ("not", 0), ("not", 1)))):
            for loose in respaced(written):
                self.exactly(read_expression(loose), expression)

    def test_nearly(self):
        for word in NEARLY:
            if word != "principal":
                self.fault(1, 1, "expected an expression", read_expression, word)
                self.fault(1, 6, "expected an expression", read_expression, "(and " + word + " yes)")
                self.fault(1, 10, "expected an expression", read_expression, "(and yes " + word + ")")
            self.fault(1, 10, "expected a scalar", read_expression, "(in (set " + word + "))")

    def test_too_many_nodes(self):
        self.exactly(len(read_expression("(not " * 39 + "yes" + ")" * 39)), 40)
        self.fault(1, 201, "too many nodes", read_expression, "(not " * 40 + "yes" + ")" * 40)
        self.fault(1, 201, "too many nodes", read_expression, "(not " * 41 + "yes" + ")" * 41)
        self.fault(1, 201, "too many nodes", read_expression, "(not " * 40 + "principal" + ")" * 40)
        self.fault(1, 201, "too many nodes", read_expression, "(not " * 40 + "(set))")
        self.fault(1, 201, "too many nodes", read_expression, "(not " * 40 + "(context a))")
        self.fault(1, 201, "too many nodes", read_expression, "(not " * 2000 + "yes")

    def test_nodes_are_counted_as_they_begin(self):
        right = "(and yes " * 19 + "yes" + ")" * 19
        self.exactly(len(read_expression(right)), 39)
        self.exactly(len(read_expression("(not " + right + ")")), 40)
        self.fault(1, 9 * 20 + 1, "too many nodes", read_expression, "(and yes " * 20 + "yes" + ")" * 20)
        left = "(and " * 19 + "yes" + " yes)" * 19
        self.exactly(len(read_expression(left)), 39)
        self.exactly(len(read_expression("(not " + left + ")")), 40)
        self.fault(1, 5 * 20 + 3 + 5 * 19 + 2, "too many nodes", read_expression, "(and " * 20 + "yes" + " yes)" * 20)
        self.fault(1, 4 + len(left) + 2, "too many nodes", read_expression, "(or " + left + " no)")

    def test_a_set_is_one_node(self):
        eight = "(set 1 2 3 4 5 6 7 8)"
        self.exactly(len(read_expression("(not " * 39 + eight + ")" * 39)), 40)
        self.exactly(len(read_expression("(not " + ("(= " + eight + " ") * 19 + eight + ")" * 20)), 40)
        self.fault(1, 201, "too many nodes", read_expression, "(not " * 40 + "(set 1 2 3 4 5 6 7 8 9)")
        self.fault(1, 201, "too many nodes", read_expression, "(not " * 40 + "(set foo")
        self.fault(1, 39 * 5 + 22, "too many scalars", read_expression, "(not " * 39 + "(set 1 2 3 4 5 6 7 8 9)")

    def test_the_word_behind_a_bracket_comes_before_the_number_of_nodes(self):
        self.fault(1, 202, "expected an operation", read_expression, "(not " * 40 + "(foo yes)")
        self.fault(1, 202, "expected an operation", read_expression, "(not " * 40 + "(foo")
        self.fault(1, 202, "expected an operation", read_expression, "(not " * 40 + "(yes)")
        self.fault(2, 3, "expected an operation", read_expression, "(not " * 40 + "(\n  principal")
        self.fault(1, 201, "expected an expression", read_expression, "(not " * 40 + "foo")
        self.fault(1, 201, "expected an expression", read_expression, "(not " * 40 + ")")
        self.fault(1, 201, "expected an expression", read_expression, "(not " * 40)
        self.fault(1, 201, "expected an expression", read_expression, "(not " * 40 + '"' + "x" * 41 + '"')


class BookTest(Case):
    def test_the_empty_book(self):
        for empty in ("", " ", "\n", "# nothing", "\n\n # (\n"):
            self.exactly(read_book(empty), [])
            self.exactly(read_changes(empty), [])

    def test_what_was_written(self):
        for policy in POLICIES:
            for loose in respaced(write_book([policy])):
                self.exactly(read_book(loose), [policy])
        for loose in respaced(write_book(list(POLICIES))):
            if len(loose) <= 12000:
                self.exactly(read_book(loose), list(POLICIES))
        self.exactly(read_book(write_book(list(reversed(POLICIES)))), list(reversed(POLICIES)))

    def test_example(self):
        written = "(permit owner any (action:read action:share) (kind doc) (= principal (get resource owner)))"
        for loose in respaced(written):
            self.exactly(read_book(loose), [("owner", "permit", ("any",), ("action:read", "action:share"), ("kind", "doc"), (
                ("principal",), ("resource",), ("get", 1, "owner"), ("same", 0, 2)))])

    def test_order_of_actions(self):
        for row, wanted in (("b:a a:b", ("a:b", "b:a")), ("a:b a:a a:ab", ("a:a", "a:ab", "a:b")), ("c:c", ("c:c",)),
                            ("a:b a1:b", ("a1:b", "a:b")), (" ".join(reversed(FULL)), FULL)):
            for loose in respaced("(permit p any (" + row + ") any yes)"):
                self.exactly(read_book(loose), [("p", "permit", ("any",), wanted, ("any",), YES)])

    def test_two_scopes(self):
        self.exactly(read_book("(forbid p (is a:b) any (in c:d) no)"),
                     [("p", "forbid", ("is", "a:b"), None, ("in", "c:d"), NO)])
        self.exactly(read_book("(forbid p (kind a) any (is ?) no) (permit p (in ?) any (kind b) yes)"),
                     [("p", "forbid", ("kind", "a"), None, ("is", "?"), NO),
                      ("p", "permit", ("in", "?"), None, ("kind", "b"), YES)])

    def test_actions_beyond_bounds(self):
        start = "(permit p any ("
        for many in range(2, 9):
            row = ["a:" + str(n) for n in range(many)]
            self.exactly(read_book(start + " ".join(row) + ") any yes)")[0][3], tuple(row))
            for again in row:
                self.fault(1, 16 + 4 * many, "uid twice", read_book, start + " ".join(row + [again]) + ") any yes)")
        row = ["a:" + str(n) for n in range(8)]
        self.fault(1, 48, "too many actions", read_book, start + " ".join(row + ["b:1"]) + ") any yes)")
        self.fault(1, 48, "too many actions", read_book, start + " ".join(row + ["b:1"]))
        self.fault(1, 48, "too many actions", read_book, start + " ".join(row + ["b:1", "b:1", "foo"]))
        self.fault(1, 48, "uid twice", read_book, start + " ".join(row + ["a:3", "b:1"]))
        self.fault(1, 48, "expected a uid", read_book, start + " ".join(row + ["foo", "b:1"]))
        self.fault(1, 48, "expected a uid", read_book, start + " ".join(row + ["\"a:3\""]))

    def test_nodes_are_counted_for_each_policy(self):
        forty = "(not " * 39 + "yes" + ")" * 39
        written = "(permit p any any any " + forty + ")\n"
        self.exactly(read_book(written * 3), [("p", "permit", ("any",), None, ("any",), nots(40))] * 3)
        self.fault(3, 22 + 200 + 1, "too many nodes", read_book, written * 2 + "(permit p any any any " + "(not " * 40 + "yes")

    def test_texts_that_are_too_long(self):
        line = "(permit p any any any yes)\n"
        self.assertEqual(len(line), 27)
        book = line * 444 + "#" * 12
        self.exactly(len(read_book(book)), 444)
        self.out_of_range("text", read_book, book + "#")
        self.out_of_range("text", read_expression, "yes" + "\n" * 11998)
        self.out_of_range("text", read_changes, "\n" * 12001)
        self.exactly(len(read_changes("(drop a:b)\n" * 1090)), 1090)

    def test_lists_are_new(self):
        found = read_book("(permit p any any any yes)")
        found.append(1)
        self.exactly(len(read_book("(permit p any any any yes)")), 1)
        found = read_changes("(drop a:b)")
        found.append(1)
        self.exactly(read_changes("(drop a:b)"), [("drop", "a:b")])


class ChangesTest(Case):
    def test_what_was_written(self):
        for change in CHANGES:
            for loose in respaced(write_changes([change])):
                self.exactly(read_changes(loose), [change])
        for loose in respaced(write_changes(list(CHANGES))):
            self.exactly(read_changes(loose), list(CHANGES))

    def test_order_of_parents(self):
        for kind in ("make", "under"):
            for row, wanted in (("b:a a:b", ("a:b", "b:a")), ("a:b a1:b", ("a1:b", "a:b")), ("x:y", ("x:y",)), ("", ()),
                                ("g:6 g:5 g:4 g:3 g:2 g:1", ("g:1", "g:2", "g:3", "g:4", "g:5", "g:6")),
                                ("g:2 u:b g:1", ("g:1", "g:2", "u:b"))):
                for loose in respaced("(" + kind + " u:b " + row + ")"):
                    self.exactly(read_changes(loose), [(kind, "u:b", wanted)])

    def test_order_of_items(self):
        self.exactly(read_changes("(set u:b n (set 2 1 2))"), [("set", "u:b", "n", items(number(1), number(2)))])

    def test_parents_beyond_bounds(self):
        for start, column in (("(make u:b ", 11), ("(under u:b ", 12)):
            for many in range(1, 7):
                row = ["a:" + str(n) for n in range(many)]
                self.exactly(read_changes(start + " ".join(row) + ")")[0][2], tuple(row))
                for again in row:
                    self.fault(1, column + 4 * many, "uid twice", read_changes, start + " ".join(row + [again]) + ")")
            row = ["a:" + str(n) for n in range(6)]
            self.fault(1, column + 24, "too many parents", read_changes, start + " ".join(row + ["b:1"]) + ")")
            self.fault(1, column + 24, "too many parents", read_changes, start + " ".join(row + ["b:1", "foo"]))
            self.fault(1, column + 24, "uid twice", read_changes, start + " ".join(row + ["a:0", "b:1"]))
            self.fault(1, column + 24, "expected a uid", read_changes, start + " ".join(row + ["foo", "b:1"]))
            self.exactly(read_changes(start + "u:b)")[0][2], ("u:b",))

    def test_any_number_of_changes(self):
        self.exactly(read_changes("(drop a:b)" * 9), [("drop", "a:b")] * 9)

    def test_a_later_fault(self):
        self.fault(2, 2, "expected a change", read_changes, "(drop a:b)\n(add a:b)")
        self.fault(2, 1, "expected (", read_changes, "(drop a:b)\n)")
        text_ = "(drop a:b)\n(make a:b\n"
        self.fault(*end_of(text_), "expected a uid", read_changes, text_)


if __name__ == "__main__":
    unittest.main()
