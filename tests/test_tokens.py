import unittest

from farfacts import tokens
from farfacts.tokens import split_text
from helpers import SIGNS, Case


def word(text, line, column):
    return ("word", text, line, column)


def quoted(text, line, column):
    return ("text", text, line, column)


def low(line, column):
    return ("(", "(", line, column)


def high(line, column):
    return (")", ")", line, column)


SPLIT = (
    ("", []),
    (" ", []),
    ("\n", []),
    ("  \n \n\n  ", []),
    ("#", []),
    ("# (a) \"b", []),
    ("a", [word("a", 1, 1)]),
    ("  a", [word("a", 1, 3)]),
    ("a  ", [word("a", 1, 1)]),
    ("abc def", [word("abc", 1, 1), word("def", 1, 5)]),
    ("abc   def", [word("abc", 1, 1), word("def", 1, 7)]),
    ("abc\ndef", [word("abc", 1, 1), word("def", 2, 1)]),
    ("abc\n\n  def\n", [word("abc", 1, 1), word("def", 3, 3)]),
    ("(", [low(1, 1)]),
    (")", [high(1, 1)]),
    ("()", [low(1, 1), high(1, 2)]),
    ("((", [low(1, 1), low(1, 2)]),
    (")\n(", [high(1, 1), low(2, 1)]),
    ("(set 1 -2)", [low(1, 1), word("set", 1, 2), word("1", 1, 6), word("-2", 1, 8), high(1, 10)]),
    ("a(b)c", [word("a", 1, 1), low(1, 2), word("b", 1, 3), high(1, 4), word("c", 1, 5)]),
    ("a#b c", [word("a", 1, 1)]),
    ("a#b\nc", [word("a", 1, 1), word("c", 2, 1)]),
    ("a #b\n c", [word("a", 1, 1), word("c", 2, 2)]),
    ("#\nc", [word("c", 2, 1)]),
    ("##\n#c\nd#", [word("d", 3, 1)]),
    ("(#)\n)", [low(1, 1), high(2, 1)]),
    ('""', [quoted("", 1, 1)]),
    ('"a"', [quoted("a", 1, 1)]),
    (' "a b"', [quoted("a b", 1, 2)]),
    ('"a"b', [quoted("a", 1, 1), word("b", 1, 4)]),
    ('a"b"', [word("a", 1, 1), quoted("b", 1, 2)]),
    ('a"b"c', [word("a", 1, 1), quoted("b", 1, 2), word("c", 1, 5)]),
    ('"a""b"', [quoted("a", 1, 1), quoted("b", 1, 4)]),
    ('"""a"', [quoted("", 1, 1), quoted("a", 1, 3)]),
    ('"a#b"', [quoted("a#b", 1, 1)]),
    ('"a#"#"', [quoted("a#", 1, 1)]),
    ('"(a) b"', [quoted("(a) b", 1, 1)]),
    ('("a")', [low(1, 1), quoted("a", 1, 2), high(1, 5)]),
    ('"  a "', [quoted("  a ", 1, 1)]),
    ('"a" # "\n"b"', [quoted("a", 1, 1), quoted("b", 2, 1)]),
    ('# "\n"b"# c', [quoted("b", 2, 1)]),
    ('"' + "x" * 100 + '"', [quoted("x" * 100, 1, 1)]),
    ("a\\nb", [word("a\\nb", 1, 1)]),
    ("@user:bob 'a' -0 01 ?", [word("@user:bob", 1, 1), word("'a'", 1, 11), word("-0", 1, 15), word("01", 1, 18),
                                word("?", 1, 21)]),
    ("x\n  (y\n\"z\" )", [word("x", 1, 1), low(2, 3), word("y", 2, 4), quoted("z", 3, 1), high(3, 5)]),
)

# Texts that are not closed: where the quote is missing.
UNCLOSED = (
    ('"', 1, 2),
    ('"abc', 1, 5),
    ('  "abc', 1, 7),
    ('"abc\n', 1, 5),
    ('"abc\n"', 1, 5),
    ('"abc\ndef"', 1, 5),
    ('"\n', 1, 2),
    ('a"', 1, 3),
    ('"a""', 1, 5),
    ('"a" "b', 1, 7),
    ('\n\n  "a # b', 3, 9),
    ('\n\n  "a # b\nc', 3, 9),
    ('x\n"a" "\n"', 2, 6),
    ('# "\n"', 2, 2),
    ('"a"\n"b', 2, 3),
    ('"a\n"b', 1, 3),
    ("\"" + "x" * 60, 1, 62),
)


class SplitTest(Case):
    def test_bound(self):
        self.exactly(tokens.BOOK_MOST, 12000)

    def test_tokens(self):
        for text, wanted in SPLIT:
            self.exactly(split_text(text), wanted)

    def test_each_sign_in_a_word(self):
        for sign in SIGNS:
            if sign not in ' ()"#':
                self.exactly(split_text("a" + sign + "b"), [word("a" + sign + "b", 1, 1)])
                self.exactly(split_text(sign), [word(sign, 1, 1)])

    def test_each_sign_in_a_quoted_text(self):
        for sign in SIGNS:
            if sign != '"':
                self.exactly(split_text('x "a' + sign + '" y'),
                             [word("x", 1, 1), quoted("a" + sign, 1, 3), word("y", 1, 8)])

    def test_the_list_is_new(self):
        found = split_text("a b")
        found.append(7)
        self.exactly(split_text("a b"), [word("a", 1, 1), word("b", 1, 3)])

    def test_unclosed(self):
        for text, line, column in UNCLOSED:
            self.fault(line, column, "text is not closed", split_text, text)

    def test_length(self):
        for text in ("a" * 12000, " " * 12000, "\n" * 12000, "#" * 12000, "a " * 6000, "()" * 6000):
            split_text(text)
            self.out_of_range("text", split_text, text + " ")
            self.out_of_range("text", split_text, "\n" + text)
        self.exactly(split_text("a" * 12000), [word("a" * 12000, 1, 1)])
        self.exactly(split_text("\n" * 11999 + "a"), [word("a", 12000, 1)])
        self.out_of_range("text", split_text, "a" * 30000)

    def test_length_comes_before_faults(self):
        self.out_of_range("text", split_text, '"' + "a" * 12000)
        self.fault(1, 12001, "text is not closed", split_text, '"' + "a" * 11999)


if __name__ == "__main__":
    unittest.main()
