"""A place in a text: its tokens are looked at from left to right."""

from farfacts.errors import TextFault
from farfacts.names import is_name, is_uid
from farfacts.tokens import split_text


class Cursor:
    """The tokens of a text, and how many of them have been taken."""

    def __init__(self, text):
        self.tokens = split_text(text)
        lines = text.split("\n")
        self.end = (len(lines), len(lines[-1]) + 1)
        self.taken = 0

    def kind(self, ahead=0):
        """The kind of the token that is so far ahead, or "end"."""
        at = self.taken + ahead
        return self.tokens[at][0] if at < len(self.tokens) else "end"

    def word(self, ahead=0):
        """The word that is so far ahead; empty, as no word is, if there is none."""
        return self.tokens[self.taken + ahead][1] if self.kind(ahead) == "word" else ""

    def quoted(self):
        """The characters of the quoted text that is next, or None."""
        return self.tokens[self.taken][1] if self.kind() == "text" else None

    def skip(self):
        """Takes the next token."""
        self.taken += 1

    def refuse(self, words, ahead=0):
        """Raises the fault at the token that is so far ahead, or at the end of the text."""
        at = self.taken + ahead
        line, column = self.tokens[at][2:] if at < len(self.tokens) else self.end
        raise TextFault(line, column, words)

    def take_kind(self, kind, words):
        """Takes a token of this kind."""
        if self.kind() != kind:
            self.refuse(words)
        self.skip()

    def take_word(self, choices, words):
        """Takes one of these words."""
        word = self.word()
        if word not in choices:
            self.refuse(words)
        self.skip()
        return word

    def take_name(self):
        """Takes a name."""
        word = self.word()
        if not is_name(word):
            self.refuse("expected a name")
        self.skip()
        return word

    def take_uid(self):
        """Takes a uid."""
        word = self.word()
        if not is_uid(word):
            self.refuse("expected a uid")
        self.skip()
        return word

    def take_uids(self, most, words):
        """Takes uids and the bracket behind them; these words refuse one too many. Rising uids."""
        uids = []
        while self.kind() != ")":
            word = self.word()
            if word in uids:
                self.refuse("uid twice")
            if is_uid(word) and len(uids) == most:
                self.refuse(words)
            uids.append(self.take_uid())
        self.skip()
        return tuple(sorted(uids))

    def take_close(self):
        """Takes the bracket that ends something."""
        self.take_kind(")", "expected )")
