import unittest

from farfacts import names
from farfacts.names import check_name, check_uid, id_of, is_name, is_uid, kind_of
from helpers import NAME_SIGNS, SIGNS, Case

GOOD_NAMES = ("a", "z", "0", "9", "bob", "x1", "1x", "007", "abcdefghijkl", "123456789012", "m5", "any", "set")
BAD_NAMES = ("", "abcdefghijklm", "1234567890123", "a" * 40, "Bob", "bOb", "boB", "a b", " ab", "ab ", "a-b", "a_b",
             "a:b", ":", "a.b", "@a", "?", "*", "()", "a\"")
GOOD_UIDS = ("a:b", "user:bob", "0:0", "user:user", "abcdefghijkl:123456789012", "a:123456789012", "abcdefghijkl:1")
BAD_UIDS = ("", ":", "a", "user", "a:", ":a", "a:b:c", "a::b", ":a:b", "a:b:", "::", "abcdefghijklm:a",
            "a:abcdefghijklm", "abcdefghijklm:abcdefghijklm", "User:bob", "user:Bob", "user: bob", "user :bob",
            "user;bob", "user bob", "@user:bob", "user:bob ", " user:bob", "user.x:bob", "user:b-b", "u_:b")


class NamesTest(Case):
    def test_bound(self):
        self.exactly(names.NAME_MOST, 12)

    def test_names(self):
        for name in GOOD_NAMES:
            self.assertIs(is_name(name), True, name)
        for name in BAD_NAMES:
            self.assertIs(is_name(name), False, name)

    def test_names_of_each_length(self):
        for length in range(0, 30):
            self.assertIs(is_name("q" * length), 1 <= length <= 12, length)

    def test_each_sign_at_each_place(self):
        for sign in SIGNS:
            good = sign in NAME_SIGNS
            for name in (sign, sign + "bc", "a" + sign + "c", "ab" + sign, sign + "b" * 11, "a" * 11 + sign):
                self.assertIs(is_name(name), good, name)

    def test_uids(self):
        for uid in GOOD_UIDS:
            self.assertIs(is_uid(uid), True, uid)
        for uid in BAD_UIDS:
            self.assertIs(is_uid(uid), False, uid)

    def test_uids_of_each_length(self):
        for one in range(0, 15):
            for two in range(0, 15):
                good = 1 <= one <= 12 and 1 <= two <= 12
                self.assertIs(is_uid("a" * one + ":" + "7" * two), good, (one, two))

    def test_each_sign_at_each_place_of_a_uid(self):
        for sign in SIGNS:
            good = sign in NAME_SIGNS
            for name in (sign, sign + "bc", "a" + sign + "c", "ab" + sign):
                self.assertIs(is_uid(name + ":abc"), good, name)
                self.assertIs(is_uid("abc:" + name), good, name)
            self.assertIs(is_uid("abc" + sign + "abc"), sign == ":", sign)

    def test_parts(self):
        for one in ("a", "user", "abcdefghijkl", "0"):
            for two in ("b", "bob", "123456789012", "a"):
                self.exactly(kind_of(one + ":" + two), one)
                self.exactly(id_of(one + ":" + two), two)

    def test_check_name(self):
        for name in GOOD_NAMES:
            self.assertIsNone(check_name(name))
            self.assertIsNone(check_name(name, "part"))
            self.assertIsNone(check_name(name, what="part"))
        for name in BAD_NAMES:
            self.out_of_range("name", check_name, name)
            self.out_of_range("part", check_name, name, "part")
            self.out_of_range("kind", check_name, name, what="kind")
            self.out_of_range("uid", check_name, text=name, what="uid")

    def test_check_uid(self):
        for uid in GOOD_UIDS:
            self.assertIsNone(check_uid(uid))
            self.assertIsNone(check_uid(uid, "part"))
            self.assertIsNone(check_uid(uid, what="part"))
        for uid in BAD_UIDS:
            self.out_of_range("uid", check_uid, uid)
            self.out_of_range("principal", check_uid, uid, "principal")
            self.out_of_range("action", check_uid, uid, what="action")
            self.out_of_range("name", check_uid, text=uid, what="name")


if __name__ == "__main__":
    unittest.main()
