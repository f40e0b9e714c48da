import unittest

from farfacts.writing import write_book, write_change, write_changes, write_policy
from helpers import NO, PRINCIPAL, RESOURCE, YES, Case, entity, items, number, op, text, truth

OWNER = ("owner", "permit", ("any",), ("action:read", "action:share"), ("kind", "doc"),
         op("same", PRINCIPAL, op("get", RESOURCE, "owner")))

POLICIES = (
    (OWNER, "(permit owner any (action:read action:share) (kind doc) (= principal (get resource owner)))"),
    (("a", "forbid", ("any",), None, ("any",), YES), "(forbid a any any any yes)"),
    (("b", "permit", ("is", "user:bob"), ("a:b",), ("in", "folder:x"), NO),
     "(permit b (is user:bob) (a:b) (in folder:x) no)"),
    (("c", "forbid", ("in", "group:x"), None, ("is", "doc:y"), op("not", YES)),
     "(forbid c (in group:x) any (is doc:y) (not yes))"),
    (("d", "permit", ("kind", "user"), ("a:b", "a:c", "b:a"), ("kind", "doc"), (("given", "x"),)),
     "(permit d (kind user) (a:b a:c b:a) (kind doc) (given x))"),
    (("t", "permit", ("is", "?"), None, ("in", "?"), YES), "(permit t (is ?) any (in ?) yes)"),
    (("u", "forbid", ("in", "?"), ("a:b",), ("any",), (("context", "x"),)),
     "(forbid u (in ?) (a:b) any (context x))"),
    (("v", "forbid", ("any",), ("a:b",), ("is", "?"), (("value", items(number(1), text("a b"))),)),
     '(forbid v any (a:b) (is ?) (set 1 "a b"))'),
)

CHANGES = (
    (("make", "user:bob", ()), "(make user:bob)"),
    (("make", "user:bob", ("group:a", "group:b")), "(make user:bob group:a group:b)"),
    (("drop", "user:bob"), "(drop user:bob)"),
    (("set", "user:bob", "age", number(-7)), "(set user:bob age -7)"),
    (("set", "user:bob", "on", truth(True)), "(set user:bob on yes)"),
    (("set", "user:bob", "boss", entity("user:ann")), "(set user:bob boss @user:ann)"),
    (("set", "user:bob", "tags", items(text("a b"), entity("x:y"))), '(set user:bob tags (set "a b" @x:y))'),
    (("set", "user:bob", "tags", ("set", ())), "(set user:bob tags (set))"),
    (("clear", "user:bob", "age"), "(clear user:bob age)"),
    (("under", "user:bob", ()), "(under user:bob)"),
    (("under", "user:bob", ("group:a",)), "(under user:bob group:a)"),
)


class WriteTest(Case):
    def test_policies(self):
        for policy, wanted in POLICIES:
            self.exactly(write_policy(policy), wanted)

    def test_changes(self):
        for change, wanted in CHANGES:
            self.exactly(write_change(change), wanted)

    def test_books(self):
        self.exactly(write_book([]), "")
        for policy, wanted in POLICIES:
            self.exactly(write_book([policy]), wanted + "\n")
        rows = [policy for policy, _ in POLICIES]
        self.exactly(write_book(rows), "".join(wanted + "\n" for _, wanted in POLICIES))
        rows.reverse()
        self.exactly(write_book(rows), "".join(wanted + "\n" for _, wanted in reversed(POLICIES)))

    def test_rows_of_changes(self):
        self.exactly(write_changes([]), "")
        for change, wanted in CHANGES:
            self.exactly(write_changes([change]), wanted + "\n")
        rows = [change for change, _ in CHANGES]
        self.exactly(write_changes(rows), "".join(wanted + "\n" for _, wanted in CHANGES))

    def test_lists_stay_as_they_are(self):
        rows = [OWNER, OWNER]
        write_book(rows)
        self.exactly(rows, [OWNER, OWNER])
        rows = [("drop", "b:b"), ("make", "a:a", ("b:b",))]
        write_changes(rows)
        self.exactly(rows, [("drop", "b:b"), ("make", "a:a", ("b:b",))])


if __name__ == "__main__":
    unittest.main()
