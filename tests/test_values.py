import itertools
import unittest

from farfacts import values
from farfacts.values import check_value, is_value, make_set, scalar_before, write_value
from helpers import SIGNS, Case, entity, items, number, text, truth

# In the order of scalars. A colon comes after the digits and before the letters.
ROW = ([truth(False), truth(True)]
       + [number(n) for n in (-1000000, -11, -10, -9, -1, 0, 1, 2, 9, 10, 11, 100, 1000000)]
       + [text(s) for s in ("", " ", " a", "-1", "10", "9", "A", "B", "Z", "a", "a b", "a:b", "aa", "ab", "b", "~")]
       + [entity(u) for u in ("0:z", "a0:a", "a1:b", "a:0", "a:1", "a:a", "a:ab", "a:b", "aa:a", "b:a", "ba:a")])

NINE = [number(n) for n in range(9)]

WITHIN = ([("set", ())] + ROW + [items(one) for one in ROW] + [
    text("x" * 40), text(" " * 40), entity("abcdefghijkl:abcdefghijkl"), ("set", tuple(NINE[:8])), ("set", tuple(ROW[:8])),
    items(truth(False), truth(True)), items(number(-1), number(0)), items(text("a"), text("a b"), text("b")),
    items(truth(True), number(1), text("1"), entity("a:1")), items(number(9), number(10)), items(text("10"), text("9")),
    items(entity("a1:b"), entity("a:b"))])

SCALARS_BEYOND = [
    number(1000001), number(-1000001), number(10 ** 30), number(-10 ** 30), text("x" * 41), text(" " * 60), text('"'),
    text('"bc'), text('a"c'), text('ab"'), text("x" * 39 + '"'), entity(""), entity("a"), entity("a:"), entity(":a"),
    entity("a:b:c"), entity("A:b"), entity("a:B"), entity("@a:b"), entity("abcdefghijklm:a"), entity("a:abcdefghijklm")]

BEYOND = SCALARS_BEYOND + [items(one) for one in SCALARS_BEYOND] + [
    ("set", tuple(NINE)), items(number(1), number(1)), items(number(2), number(1)), items(number(1), truth(True)),
    items(text("a"), number(1)), items(entity("a:b"), text("a")), items(truth(True), truth(False)),
    items(entity("b:a"), entity("a:b")), items(text("9"), text("10")), items(text("ab"), text("a")),
    items(entity("a:b"), entity("a1:b")), items(number(1), number(2), number(2)), items(number(1), number(3), number(2)),
    items(number(2), number(1), number(3)), items(text("a"), text("a")), items(truth(False), truth(False)),
    items(entity("a:b"), entity("a:b")), items(items()), items(items(number(1))), items(number(1), items()),
    items(items(), number(1)), items(number(1), number(1000001)), items(number(-1000001), number(1)),
    items(text("a"), text('b"')), items(text("a"), entity("b"))]


class OrderTest(Case):
    def test_bounds(self):
        self.exactly((values.NUMBER_MOST, values.TEXT_MOST, values.SET_MOST), (1000000, 40, 8))

    def test_scalar_before(self):
        for at, one in enumerate(ROW):
            for other, two in enumerate(ROW):
                self.assertEqual(bool(scalar_before(one, two)), at < other, (one, two))

    def test_make_set_in_any_order(self):
        chosen = [truth(True), number(1), text("1"), entity("a:1")]
        for row in itertools.permutations(chosen):
            self.exactly(make_set(list(row)), ("set", tuple(chosen)))
        for row in itertools.permutations([number(-2), number(0), number(7), number(10)]):
            self.exactly(make_set(list(row)), items(number(-2), number(0), number(7), number(10)))

    def test_make_set_puts_all_pairs_in_order(self):
        for one, two in itertools.product(range(len(ROW)), repeat=2):
            low, high = ROW[min(one, two)], ROW[max(one, two)]
            wanted = items(low) if one == two else items(low, high)
            self.exactly(make_set([ROW[one], ROW[two]]), wanted)

    def test_make_set_with_equal_scalars(self):
        self.exactly(make_set([]), ("set", ()))
        self.exactly(make_set([text("b"), text("a"), text("b"), text("a"), text("b")]), items(text("a"), text("b")))
        self.exactly(make_set([number(1)] * 20), items(number(1)))

    def test_make_set_of_eight_and_nine(self):
        self.exactly(make_set(NINE[:8]), ("set", tuple(NINE[:8])))
        self.exactly(make_set(list(reversed(NINE[:8]))), ("set", tuple(NINE[:8])))
        self.exactly(make_set(NINE[:8] + NINE[:8]), ("set", tuple(NINE[:8])))
        self.out_of_range("set", make_set, NINE)
        self.out_of_range("set", make_set, list(reversed(NINE)))
        self.out_of_range("set", make_set, NINE + NINE)

    def test_make_set_out_of_bounds(self):
        for one in SCALARS_BEYOND:
            self.out_of_range("set", make_set, [one])
            self.out_of_range("set", make_set, [number(1), one])
            self.out_of_range("set", make_set, [one, text("a"), text("a")])

    def test_make_set_leaves_its_list(self):
        row = [text("b"), number(2), text("b"), truth(False)]
        kept = list(row)
        found = make_set(row)
        self.exactly(row, kept)
        row.append(number(3))
        row[0] = number(9)
        self.exactly(found, items(truth(False), number(2), text("b")))
        row = list(NINE)
        self.out_of_range("set", make_set, row)
        self.exactly(row, NINE)


class BoundsTest(Case):
    def test_within(self):
        for value in WITHIN:
            self.assertIs(is_value(value), True, value)
            self.assertIsNone(check_value(value))
            self.assertIsNone(check_value(value, "worth"))

    def test_beyond(self):
        for value in BEYOND:
            self.assertIs(is_value(value), False, value)
            self.out_of_range("value", check_value, value)
            self.out_of_range("worth", check_value, value, "worth")
            self.out_of_range("part", check_value, value, what="part")
            self.out_of_range("name", check_value, value=value, what="name")

    def test_numbers_near_the_bounds(self):
        for n in range(999990, 1000010):
            self.assertIs(is_value(number(n)), n <= 1000000, n)
            self.assertIs(is_value(number(-n)), n <= 1000000, -n)

    def test_texts_of_each_length(self):
        for length in range(0, 60):
            self.assertIs(is_value(text("x" * length)), length <= 40, length)

    def test_each_sign_of_a_text(self):
        for sign in SIGNS:
            for s in (sign, sign + "bc", "a" + sign + "c", "ab" + sign, "x" * 39 + sign):
                self.assertIs(is_value(text(s)), sign != '"', s)

    def test_sets_of_each_size(self):
        for many in range(0, 20):
            self.assertIs(is_value(("set", tuple(number(n) for n in range(many)))), many <= 8, many)

    def test_pairs_of_items(self):
        for at, one in enumerate(ROW):
            for other, two in enumerate(ROW):
                self.assertIs(is_value(items(one, two)), at < other, (one, two))


class WriteTest(Case):
    def test_scalars(self):
        for value, wanted in ((truth(True), "yes"), (truth(False), "no"), (number(0), "0"), (number(7), "7"),
                              (number(-7), "-7"), (number(1000000), "1000000"), (number(-1000000), "-1000000"),
                              (number(10), "10"), (text(""), '""'), (text("a b"), '"a b"'), (text("yes"), '"yes"'),
                              (text("# (x)"), '"# (x)"'), (text(" a  "), '" a  "'), (text("\\n'"), '"\\n\'"'),
                              (entity("user:bob"), "@user:bob"), (entity("a:1"), "@a:1")):
            self.exactly(write_value(value), wanted)

    def test_sets(self):
        self.exactly(write_value(("set", ())), "(set)")
        self.exactly(write_value(items(number(-3))), "(set -3)")
        self.exactly(write_value(items(text(""))), '(set "")')
        self.exactly(write_value(items(truth(False), truth(True))), "(set no yes)")

    def test_example(self):
        value = make_set([entity("user:bob"), text("a b"), number(2), truth(False)])
        self.exactly(write_value(value), '(set no 2 "a b" @user:bob)')


if __name__ == "__main__":
    unittest.main()
