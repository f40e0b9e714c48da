"""The faults of texts: for each place in the grammar the tokens that cannot stand there, and the end of the text."""

import unittest

from farfacts.reading import read_book, read_changes, read_expression, read_value
from helpers import Case, end_of

LONG = '"' + "x" * 41 + '"'

# For each letter of the rows below: the words of the fault, and tokens that cannot stand there.
PLACES = {
    "V": ("expected a value", (")", "foo", "principal", "-0", "01", "1000001", "@bob", "any", LONG)),
    "W": ("expected a value", ("(", ")", "foo", "get", "context", "1", "yes", "any", '"set"', LONG)),
    "S": ("expected a scalar", ("(", "foo", "principal", "-0", "01", "-1000001", "@bob", "user:bob", LONG)),
    "E": ("expected an expression", (")", "foo", "-0", "01", "1000001", "@bob", "user:bob", "any", "permit", "set", "Yes",
                                     "principal.x", LONG)),
    "O": ("expected an operation", ("(", ")", "foo", "same", "less", "value", "principal", "yes", "1", "make", "permit",
                                    '"get"', '"set"', "Get", "=<", "==", LONG)),
    "N": ("expected a name", ("(", ")", "Owner", "a:b", "abcdefghijklm", "-", "-1", "?", "@a", '"owner"', '"a"', LONG)),
    "U": ("expected a uid", ("(", ")", "bob", "@user:bob", "a:b:c", "user:", ":bob", "User:bob", "any", "?", "*",
                             '"user:bob"', "abcdefghijklm:a", LONG)),
    "u": ("expected a uid", ("(", "bob", "@user:bob", "a:b:c", "user:", ":bob", "User:bob", "any", "?", "*",
                             '"user:bob"', "a:abcdefghijklm", LONG)),
    "Z": ("expected a uid", ("(", ")", "bob", "@user:bob", "a:b:c", "user:", ":bob", "User:bob", "any", "??", "*",
                             '"user:bob"', '"?"', LONG)),
    "Q": ("expected a scope", (")", "is", "user:bob", "all", "?", "yes", "1", '"any"', "Any", LONG)),
    "K": ("expected is, in or kind", ("(", ")", "any", "user:bob", "kinds", "set", "has", "?", '"is"', "In", LONG)),
    "A": ("expected actions", (")", "action:read", "all", "?", "yes", '"any"', "ANY", LONG)),
    "P": ("expected permit or forbid", ("(", ")", "allow", "deny", "any", "Permit", "make", '"permit"', LONG)),
    "B": ("expected (", (")", "permit", "make", "any", "yes", '"("', "user:bob", LONG)),
    "H": ("expected a change", ("(", ")", "add", "permit", "remove", "get", "Make", "user:bob", '"make"', LONG)),
    ")": ("expected )", ("(", "foo", "yes", "1", "any", "user:bob", '"a"', '")"', LONG)),
}
ANYWHERE = ("]", "{", ";", "A", "a-b", "=>")

# Texts, and for each of their tokens the place at which it stands.
EXPRESSION_ROWS = (
    ("yes", "E"),
    ("( set )", "E O S"),
    ('( set no 1 -5 "a" @user:bob )', "E O S S S S S S"),
    ("( context age )", "E O N )"),
    ("( given age )", "E O N )"),
    ("( get principal boss )", "E O E N )"),
    ("( has action boss )", "E O E N )"),
    ("( is resource doc )", "E O E N )"),
    ("( not yes )", "E O E )"),
    ("( and yes no )", "E O E E )"),
    ("( or yes no )", "E O E E )"),
    ('( = 1 "a" )', "E O E E )"),
    ("( < 1 -1 )", "E O E E )"),
    ("( in principal @user:bob )", "E O E E )"),
    ("( contains ( set 1 ) 1 )", "E O E O S S E )"),
    ("( if yes no principal )", "E O E E E )"),
    ("( get ( get ( context a ) b ) c )", "E O E O E O N ) N ) N )"),
    ("( if ( not ( given a ) ) ( in principal ( set @a:b ) ) ( is ( get resource b ) c ) )",
     "E O E O E O N ) ) E O E E O S S ) E O E O E N ) N ) )"),
    ("( and ( or yes no ) ( not ( = ( set ) 1 ) ) )", "E O E O E E ) E O E O E O S E ) ) )"),
)
VALUE_ROWS = (
    ("yes", "V"),
    ("-12", "V"),
    ('"a b"', "V"),
    ("@user:bob", "V"),
    ("( set )", "V W S"),
    ('( set no 1 "a" @user:bob )', "V W S S S S S"),
)
BOOK_ROWS = (
    ("( permit owner any any any yes )", "B P N Q A Q E )"),
    ("( forbid any ( is user:bob ) ( action:a ) ( in doc:plan ) ( set 1 ) )", "B P N Q K Z ) A U u Q K Z ) E O S S )"),
    ("( permit t ( in ? ) ( a:b a:c a:d ) ( is ? ) no )", "B P N Q K Z ) A U u u u Q K Z ) E )"),
    ("( permit p ( kind user ) any ( kind doc ) ( = principal ( get resource owner ) ) )",
     "B P N Q K N ) A Q K N ) E O E E O E N ) ) )"),
    ("( forbid p any any ( kind doc ) ( and yes no ) ) ( permit q ( is a:b ) ( c:d ) any yes )",
     "B P N Q A Q K N ) E O E E ) ) B P N Q K Z ) A U u Q E )"),
)
CHANGE_ROWS = (
    ("( make user:bob )", "B H U u"),
    ("( make user:bob group:a group:b )", "B H U u u u"),
    ("( under user:bob )", "B H U u"),
    ("( under user:bob group:a )", "B H U u u"),
    ("( drop user:bob )", "B H U )"),
    ("( set user:bob age 7 )", "B H U N V )"),
    ('( set user:bob age ( set "a" 1 ) )', "B H U N V W S S S )"),
    ("( set user:bob set ( set ) )", "B H U N V W S )"),
    ("( clear user:bob age )", "B H U N )"),
    ("( drop user:bob ) ( make user:bob group:a ) ( set user:bob age 7 ) ( clear user:bob age )",
     "B H U ) B H U u u B H U N V ) B H U N )"),
)
GRAMMAR = ((read_expression, EXPRESSION_ROWS), (read_value, VALUE_ROWS), (read_book, BOOK_ROWS), (read_changes, CHANGE_ROWS))


def rows():
    """Each reader with each of its rows, as tokens with the words and the bad tokens of their places."""
    for read, table in GRAMMAR:
        for written, places in table:
            parts = written.replace('"a b"', '"a+b"').split()
            places = places.split()
            assert len(parts) == len(places), written
            yield read, [(part.replace("+", " "), place, PLACES[place]) for part, place in zip(parts, places)]


class FaultTest(Case):
    def test_rows_themselves(self):
        for read, row in rows():
            read(" ".join(part for part, _, _ in row))

    def test_a_token_that_cannot_stand_there(self):
        for read, row in rows():
            parts = [part for part, _, _ in row]
            for at, (_, _, (words, bad)) in enumerate(row):
                for token in bad + ANYWHERE:
                    before = "".join(part + " " for part in parts[:at])
                    column = len(before) + 1
                    for behind in (parts[at:], parts[at + 1:], [], ["]"], [")"] * 5, ["("] * 50):
                        self.fault(1, column, words, read, before + " ".join([token] + behind))

    def test_lines_and_columns(self):
        for read, row in rows():
            parts = [part for part, _, _ in row]
            for at, (_, _, (words, bad)) in enumerate(row):
                before = "".join("  " + part + " # (no) \"\n" for part in parts[:at])
                self.fault(at + 1, 3, words, read, before + "  " + bad[0] + "\n" + "\n".join(parts[at + 1:]))
                before = "".join(part + "\n" for part in parts[:at])
                self.fault(at + 2, 5, words, read, before + "\n    " + bad[-1] + "#\n" + " ".join(parts[at:]))

    def test_the_end_of_the_text(self):
        for read, row in rows():
            for at, (_, place, (words, _)) in enumerate(row):
                if place == "B":
                    continue
                before = " ".join(part for part, _, _ in row[:at])
                for gap in ("", " ", "   ", "\n", "\n\n", "\n  ", "# comment", " # (", "\n#\n  # ", "#\n"):
                    self.fault(*end_of(before + gap), words, read, before + gap)

    def test_a_book_or_changes_may_end_before_a_bracket(self):
        for read, row in rows():
            for at, (_, place, _) in enumerate(row):
                if place == "B":
                    self.assertIsInstance(read(" ".join(part for part, _, _ in row[:at]) + " # end\n"), list)

    def test_what_stands_behind_a_value_or_expression(self):
        for read, row in rows():
            if read not in (read_value, read_expression):
                continue
            written = " ".join(part for part, _, _ in row)
            for token in ("(", ")", "yes", '"a"', "foo", "]", LONG, "(set)", "principal"):
                self.fault(1, len(written) + 2, "expected the end", read, written + " " + token)
                self.fault(3, 2, "expected the end", read, written + " # x\n\n " + token + " ) (")

    def test_the_first_fault_is_told(self):
        for read, text, column, words in (
                (read_value, "(set foo (bar", 6, "expected a scalar"),
                (read_value, "(foo foo", 2, "expected a value"),
                (read_value, ") (", 1, "expected a value"),
                (read_expression, "(and (foo) (bar))", 7, "expected an operation"),
                (read_expression, "(get principal Owner foo", 16, "expected a name"),
                (read_expression, "(context a b)", 12, "expected )"),
                (read_book, "(permit A any any any foo)", 9, "expected a name"),
                (read_book, "(allow A", 2, "expected permit or forbid"),
                (read_book, "(permit p all all all all)", 11, "expected a scope"),
                (read_book, "(permit p any all all all)", 15, "expected actions"),
                (read_book, "(permit p any any all all)", 19, "expected a scope"),
                (read_book, "(permit p any any any all)", 23, "expected an expression"),
                (read_book, "(permit p any any any yes no)", 27, "expected )"),
                (read_book, "(permit p any () any foo)", 16, "expected a uid"),
                (read_book, "(permit p (any) any any yes)", 12, "expected is, in or kind"),
                (read_book, "(permit p any (any) any yes)", 16, "expected a uid"),
                (read_book, "(permit p (kind ?) any any yes)", 17, "expected a name"),
                (read_book, "(permit p any (?) any yes)", 16, "expected a uid"),
                (read_changes, "(make bob (set", 7, "expected a uid"),
                (read_changes, "(drop a:b a:c", 11, "expected )"),
                (read_changes, "(drop ?)", 7, "expected a uid"),
                (read_changes, "(set a:b 7x- foo)", 10, "expected a name"),
                (read_changes, "(set a:b n (get principal x))", 13, "expected a value"),
                (read_changes, "(set a:b n principal)", 12, "expected a value"),
                (read_changes, "(clear a:b n 7)", 14, "expected )")):
            self.fault(1, column, words, read, text)

    def test_a_text_that_is_not_closed_comes_first(self):
        self.fault(3, 4, "text is not closed", read_value, ") foo\n(((\n  \"")
        self.fault(1, 12, "text is not closed", read_expression, "(foo) \"bar \n")
        self.fault(2, 6, "text is not closed", read_book, "(permit 1 2 3\n \"any")
        self.fault(1, 16, "text is not closed", read_changes, "(drop) (make \"a\n\"")


if __name__ == "__main__":
    unittest.main()
