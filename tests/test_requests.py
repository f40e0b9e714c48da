import unittest

from farfacts import requests
from farfacts.requests import check_request, context_value, request_kind, with_part
from helpers import Case, entity, items, number, text, truth

BOB = ("user:bob", "action:share", "doc:plan", ())
BAD_UIDS = ("", "bob", "user:", ":bob", "a:b:c", "User:bob", "user:Bob", "@user:bob", "abcdefghijklm:a", "?", "any")
EIGHT = tuple(("n" + str(n), number(n)) for n in range(8))

GOOD_CONTEXTS = ((), (("a", number(1)),), EIGHT, (("1", truth(True)), ("a", text("x" * 40)), ("aa", entity("a:b"))),
                 (("a", ("set", ())), ("b", items(number(1), number(2)))), (("abcdefghijkl", number(1000000)),))
BAD_CONTEXTS = (
    EIGHT + (("n8", number(8)),),
    EIGHT + (("z", number(8)), ("zz", number(8))),
    (("b", number(1)), ("a", number(1))),
    (("a", number(1)), ("a", number(1))),
    (("a", number(1)), ("a", number(2))),
    (("a", number(1)), ("c", number(1)), ("b", number(1))),
    (("b", number(1)), ("a", number(1)), ("c", number(1))),
    (("a", number(1)), ("b", number(1)), ("b", number(1))),
    (("aa", number(1)), ("a", number(1))),
    (("a", number(1)), ("1", number(1))),
    (("", number(1)),),
    (("A", number(1)),),
    (("a", number(1)), ("b-", number(1))),
    (("A", number(1)), ("b", number(1))),
    (("abcdefghijklm", number(1)),),
    (("a:b", number(1)),),
    (("a", number(1000001)),),
    (("a", text("x" * 41)),),
    (("a", text('"')),),
    (("a", entity("bob")),),
    (("a", items(number(2), number(1))),),
    (("a", items(items())),),
    (("a", number(1)), ("b", number(-1000001))),
    (("a", number(-1000001)), ("b", number(1))),
)


class CheckTest(Case):
    def test_bound(self):
        self.exactly(requests.CONTEXT_MOST, 8)

    def test_good(self):
        for context in GOOD_CONTEXTS:
            self.assertIsNone(check_request(("user:bob", "action:share", "doc:plan", context)))
        self.assertIsNone(check_request(("a:b", "a:b", "a:b", ())))

    def test_each_part(self):
        for uid in BAD_UIDS:
            self.out_of_range("principal", check_request, (uid,) + BOB[1:])
            self.out_of_range("action", check_request, BOB[:1] + (uid,) + BOB[2:])
            self.out_of_range("resource", check_request, BOB[:2] + (uid,) + BOB[3:])
        for context in BAD_CONTEXTS:
            self.out_of_range("context", check_request, BOB[:3] + (context,))

    def test_two_parts_at_once(self):
        parts = ("principal", "action", "resource", "context")
        bad = ("bob", "share", "plan", (("A", number(1)),))
        for one in range(4):
            for two in range(one + 1, 4):
                request = tuple(bad[at] if at in (one, two) else BOB[at] for at in range(4))
                self.out_of_range(parts[one], check_request, request)
            self.out_of_range(parts[one], check_request, BOB[:one] + bad[one:])


class PartsTest(Case):
    def test_kind(self):
        self.exactly(request_kind(BOB), ("user", "action:share", "doc"))
        self.exactly(request_kind(("a:x", "b:y", "c:z", EIGHT)), ("a", "b:y", "c"))

    def test_context_value(self):
        request = BOB[:3] + ((("a", number(1)), ("aa", truth(False)), ("b", text("")), ("c", ("set", ()))),)
        self.exactly(context_value(request, "a"), number(1))
        self.exactly(context_value(request, "aa"), truth(False))
        self.exactly(context_value(request, "b"), text(""))
        self.exactly(context_value(request, "c"), ("set", ()))
        for name in ("d", "0", "ab", "aaa", "x"):
            self.assertIsNone(context_value(request, name))
            self.assertIsNone(context_value(BOB, name))
        for name, value in EIGHT:
            self.exactly(context_value(BOB[:3] + (EIGHT,), name), value)

    def test_with_part(self):
        for context in GOOD_CONTEXTS:
            request = ("user:bob", "action:share", "doc:plan", context)
            self.exactly(with_part(request, "principal", "user:ann"), ("user:ann", "action:share", "doc:plan", context))
            self.exactly(with_part(request, "resource", "user:ann"), ("user:bob", "action:share", "user:ann", context))
            self.exactly(request, ("user:bob", "action:share", "doc:plan", context))


if __name__ == "__main__":
    unittest.main()
