"""Texts, split into tokens."""

from farfacts.errors import OutOfRange, TextFault
from farfacts.values import is_sign

BOOK_MOST = 12000


def split_text(text):
    """The list of the tokens: tuples of kind, text, line and column."""
    if len(text) > BOOK_MOST or not all([sign == "\n" or is_sign(sign) for sign in text]):
        raise OutOfRange("text")
    tokens = []
    # No token and no comment goes beyond its line.
    for at, line in enumerate(text.split("\n")):
        tokens.extend(split_line(line, at + 1))
    return tokens


def split_line(line, number):
    """The list of the tokens of the line with this number."""
    tokens = []
    at = 0
    while at < len(line) and line[at] != "#":
        sign = line[at]
        if sign == " ":
            at += 1
            continue
        after = token_end(line, at, number)
        if sign == '"':
            tokens.append(("text", line[at + 1:after - 1], number, at + 1))
        elif sign in "()":
            tokens.append((sign, sign, number, at + 1))
        else:
            tokens.append(("word", line[at:after], number, at + 1))
        at = after
    return tokens


def token_end(line, at, number):
    """The index behind the token that begins at this one."""
    if line[at] in "()":
        return at + 1
    if line[at] == '"':
        quote = line.find('"', at + 1)
        if quote < 0:
            raise TextFault(number, len(line) + 1, "text is not closed")
        return quote + 1
    after = at
    while after < len(line) and line[after] not in ' ()"#':
        after += 1
    return after
