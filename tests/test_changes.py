import unittest

from farfacts.databases import Database, check_change, check_changes
from helpers import Case, entity, items, number, text, truth

BAD_UIDS = ("", "bob", "user:", ":bob", "a:b:c", "User:bob", "user:Bob", "@user:bob", "a:abcdefghijklm", "?")
BAD_NAMES = ("", "Age", "a b", "a:b", "abcdefghijklm", "a-", "?")
BAD_VALUES = (number(1000001), number(-1000001), text("x" * 41), text('a"'), entity("bob"), items(number(2), number(1)),
              items(number(1), number(1)), items(items()), ("set", tuple(number(n) for n in range(9))))
BAD_PARENTS = (("g:0", "g:1", "g:2", "g:3", "g:4", "g:5", "g:6"), ("b:a", "a:b"), ("a:b", "a:b"), ("bob",), ("a:b", "B:c"),
               ("a:a", "a:c", "a:b"))
SIX = ("g:0", "g:1", "g:2", "g:3", "g:4", "g:5")
EIGHT = tuple(("n" + str(n), number(n)) for n in range(8))

GOOD = (
    ("make", "user:new", ()), ("make", "user:new", SIX), ("make", "user:new", ("user:new",)), ("drop", "user:bob"),
    ("set", "user:bob", "age", number(8)), ("set", "user:bob", "tags", items(number(1), number(2))),
    ("clear", "user:bob", "age"), ("under", "user:bob", ()), ("under", "user:bob", SIX), ("under", "user:bob", ("a1:b", "a:b")),
)

BAD = ([("uid", (kind, uid) + rest) for uid in BAD_UIDS for kind, rest in (
            ("make", ((),)), ("drop", ()), ("set", ("age", number(1))), ("clear", ("age",)), ("under", ((),)))]
       + [("parents", (kind, "user:bob", parents)) for parents in BAD_PARENTS for kind in ("make", "under")]
       + [("name", (kind, "user:bob", name) + rest) for name in BAD_NAMES for kind, rest in (
            ("set", (number(1),)), ("clear", ()))]
       + [("value", ("set", "user:bob", "age", value)) for value in BAD_VALUES]
       + [("uid", (kind, "bob", BAD_PARENTS[0])) for kind in ("make", "under")]
       + [("uid", ("set", "bob", "Age", number(1))), ("uid", ("set", "bob", "age", BAD_VALUES[0])), ("uid", ("clear", "bob", "A")),
          ("uid", ("set", "bob", "Age", BAD_VALUES[0])), ("name", ("set", "user:bob", "Age", BAD_VALUES[0]))])

ROWS = [("user:bob", (("age", number(7)), ("tags", ("set", ()))), ("group:a",)),
        ("group:a", (), ("group:b",)),
        ("full:x", EIGHT, ())]


def small():
    return Database(list(ROWS))


def plain(many):
    return Database([("e:" + str(100 + n), (), ()) for n in range(many)])


def nine_makes():
    return [("make", "m:" + str(n), ()) for n in range(9)]


class CheckTest(Case):
    def test_good(self):
        for change in GOOD:
            self.assertIsNone(check_change(change))
            self.assertIsNone(check_changes([change]))
            self.assertIsNone(check_changes([change] * 8))

    def test_bad(self):
        for name, change in BAD:
            self.out_of_range(name, check_change, change)
            self.out_of_range("changes", check_changes, [change])
            self.out_of_range("changes", check_changes, [GOOD[0], change])
            self.out_of_range("changes", check_changes, [change, GOOD[0]])
            self.out_of_range("changes", check_changes, [GOOD[0]] * 7 + [change])

    def test_numbers(self):
        self.out_of_range("changes", check_changes, [])
        for many in range(1, 9):
            self.assertIsNone(check_changes(nine_makes()[:many]))
        self.out_of_range("changes", check_changes, nine_makes())
        self.out_of_range("changes", check_changes, nine_makes() + nine_makes())

    def test_the_list_stays_as_it_is(self):
        row = nine_makes()[:8]
        check_changes(row)
        small().changed(row)
        self.exactly(row, nine_makes()[:8])


class ChangedTest(Case):
    def after(self, changes, wanted):
        """What the small database is after the changes; it stays as it was."""
        base = small()
        found = base.changed(changes)
        self.exactly(found.entities(), sorted(wanted, key=lambda one: one[0]))
        self.exactly(found.many(), len(wanted))
        self.assertTrue(found.same(Database(wanted)))
        self.exactly(base.entities(), small().entities())
        self.assertIsInstance(found, Database)
        return found

    def refuses(self, number_, words, base, changes):
        before = base.entities()
        self.refused(number_, words, base.changed, changes)
        self.exactly(base.entities(), before)

    def test_make(self):
        self.after([("make", "user:new", ())], ROWS + [("user:new", (), ())])
        self.after([("make", "a:new", SIX)], ROWS + [("a:new", (), SIX)])
        self.after([("make", "a:new", ("a:new", "user:bob"))], ROWS + [("a:new", (), ("a:new", "user:bob"))])
        self.after([("make", "group:b", ())], ROWS + [("group:b", (), ())])

    def test_drop(self):
        self.after([("drop", "user:bob")], ROWS[1:])
        found = self.after([("drop", "group:a")], [ROWS[0], ROWS[2]])
        self.exactly(found.parents("user:bob"), ("group:a",))
        self.exactly(found.ancestors("user:bob"), ("group:a",))
        self.after([("drop", "group:a"), ("drop", "user:bob"), ("drop", "full:x")], [])

    def test_set(self):
        _, attributes, parents = ROWS[0]
        self.after([("set", "user:bob", "age", number(8))],
                   [("user:bob", (("age", number(8)), attributes[1]), parents)] + ROWS[1:])
        self.after([("set", "user:bob", "tags", text("x"))],
                   [("user:bob", (attributes[0], ("tags", text("x"))), parents)] + ROWS[1:])
        for name, at in (("a", 0), ("agf", 1), ("b", 1), ("tag", 1), ("tagss", 2), ("z", 2), ("0", 0)):
            wanted = attributes[:at] + ((name, truth(False)),) + attributes[at:]
            self.after([("set", "user:bob", name, truth(False))], [("user:bob", wanted, parents)] + ROWS[1:])
        self.after([("set", "group:a", "x", ("set", ()))],
                   [ROWS[0], ("group:a", (("x", ("set", ())),), ("group:b",)), ROWS[2]])
        self.after([("set", "user:bob", "age", number(7))], ROWS)

    def test_set_when_there_are_eight(self):
        for at, (name, _) in enumerate(EIGHT):
            wanted = EIGHT[:at] + ((name, text("new")),) + EIGHT[at + 1:]
            self.after([("set", "full:x", name, text("new"))], ROWS[:2] + [("full:x", wanted, ())])
        self.refuses(0, "too many attributes", small(), [("set", "full:x", "n8", number(1))])
        self.refuses(0, "too many attributes", small(), [("set", "full:x", "a", number(1))])
        self.after([("clear", "full:x", "n0"), ("set", "full:x", "n8", number(8))],
                   ROWS[:2] + [("full:x", EIGHT[1:] + (("n8", number(8)),), ())])
        self.refuses(1, "too many attributes", Database([("full:x", EIGHT[1:], ())]),
                     [("set", "full:x", "n8", number(8)), ("set", "full:x", "n9", number(9))])

    def test_clear(self):
        _, attributes, parents = ROWS[0]
        self.after([("clear", "user:bob", "age")], [("user:bob", attributes[1:], parents)] + ROWS[1:])
        self.after([("clear", "user:bob", "tags")], [("user:bob", attributes[:1], parents)] + ROWS[1:])
        self.after([("clear", "user:bob", "tags"), ("clear", "user:bob", "age")], [("user:bob", (), parents)] + ROWS[1:])

    def test_under(self):
        _, attributes, _ = ROWS[0]
        for parents in ((), SIX, ("group:b",), ("user:bob",), ("group:a",)):
            self.after([("under", "user:bob", parents)], [("user:bob", attributes, parents)] + ROWS[1:])

    def test_refused(self):
        for words, change in (
                ("entity exists", ("make", "user:bob", ())), ("entity exists", ("make", "user:bob", ("group:a",))),
                ("no such entity", ("drop", "user:new")), ("no such entity", ("drop", "group:b")),
                ("no such entity", ("set", "user:new", "age", number(1))), ("no such entity", ("clear", "user:new", "age")),
                ("no such entity", ("under", "user:new", ())), ("no such entity", ("under", "group:b", ("group:a",))),
                ("no such attribute", ("clear", "user:bob", "ag")), ("no such attribute", ("clear", "group:a", "age")),
                ("too many attributes", ("set", "full:x", "new", number(1)))):
            self.refuses(0, words, small(), [change])
            for many in range(1, 8):
                self.refuses(many, words, small(), nine_makes()[:many] + [change])
            self.refuses(1, words, small(), [("make", "m:m", ()), change, ("drop", "no:no"), change])

    def test_too_many_entities(self):
        self.exactly(plain(39).changed([("make", "m:m", ())]).many(), 40)
        self.refuses(0, "too many entities", plain(40), [("make", "m:m", ())])
        self.refuses(1, "too many entities", plain(39), [("make", "m:m", ()), ("make", "m:n", ())])
        self.refuses(0, "entity exists", plain(40), [("make", "e:105", ())])
        found = plain(40).changed([("drop", "e:105"), ("make", "m:m", ())])
        self.exactly(found.many(), 40)
        self.assertTrue(found.has("m:m") and not found.has("e:105"))
        self.refuses(2, "too many entities", plain(40), [("drop", "e:105"), ("make", "m:m", ()), ("make", "m:n", ())])
        self.exactly(plain(32).changed(nine_makes()[:8]).many(), 40)
        self.refuses(7, "too many entities", plain(33), nine_makes()[:8])

    def test_one_after_another(self):
        self.after([("make", "m:m", ("a:b",)), ("set", "m:m", "x", number(1)), ("set", "m:m", "a", number(2)),
                    ("under", "m:m", ("c:d",)), ("set", "m:m", "x", number(3)), ("clear", "m:m", "a")],
                   ROWS + [("m:m", (("x", number(3)),), ("c:d",))])
        self.after([("drop", "user:bob"), ("make", "user:bob", ("x:y",))], ROWS[1:] + [("user:bob", (), ("x:y",))])
        self.after([("make", "m:m", ()), ("drop", "m:m")], ROWS)
        self.after([("drop", "full:x"), ("make", "full:x", ()), ("set", "full:x", "new", number(1))],
                   ROWS[:2] + [("full:x", (("new", number(1)),), ())])
        self.refuses(1, "no such entity", small(), [("drop", "user:bob"), ("set", "user:bob", "age", number(1))])
        self.refuses(1, "no such entity", small(), [("drop", "user:bob"), ("drop", "user:bob")])
        self.refuses(1, "entity exists", small(), [("make", "m:m", ()), ("make", "m:m", ())])
        self.refuses(1, "no such attribute", small(), [("clear", "user:bob", "age"), ("clear", "user:bob", "age")])
        self.refuses(2, "no such attribute", small(), [("drop", "user:bob"), ("make", "user:bob", ()), ("clear", "user:bob", "age")])
        self.refuses(0, "no such entity", small(), [("set", "m:m", "x", number(1)), ("make", "m:m", ())])

    def test_numbers_of_changes(self):
        self.out_of_range("changes", small().changed, [])
        for many in range(1, 9):
            self.after(nine_makes()[:many], ROWS + [("m:" + str(n), (), ()) for n in range(many)])
        self.out_of_range("changes", small().changed, nine_makes())
        self.out_of_range("changes", small().changed, [("drop", "no:no")] * 9)

    def test_bounds_come_first(self):
        for _, change in BAD:
            base = small()
            self.out_of_range("changes", base.changed, [change])
            self.out_of_range("changes", base.changed, [("drop", "no:no"), change])
            self.out_of_range("changes", base.changed, [("drop", "user:bob"), change])
            self.exactly(base.entities(), small().entities())

    def test_neither_database_knows_of_the_other(self):
        base = small()
        one = base.changed([("set", "user:bob", "age", number(1))])
        two = one.changed([("drop", "user:bob")])
        three = base.changed([("under", "user:bob", ())])
        self.exactly(base.attribute("user:bob", "age"), number(7))
        self.exactly(one.attribute("user:bob", "age"), number(1))
        self.assertFalse(two.has("user:bob"))
        self.exactly(three.attribute("user:bob", "age"), number(7))
        self.exactly((one.parents("user:bob"), three.parents("user:bob")), (("group:a",), ()))
        row = [("drop", "user:bob")]
        four = base.changed(row)
        row[0] = ("drop", "group:a")
        row.append(("drop", "full:x"))
        self.exactly(four.entities(), sorted(ROWS[1:]))


if __name__ == "__main__":
    unittest.main()
