"""Cursors, with which the tokens of a text are read one after another."""

from indoubt.errors import NestedTooDeeply, UnexpectedToken
from indoubt.tokens import RESERVED, tokens_of

DEEPEST_LEVEL = 20


class Cursor:
    """The tokens of a text, and the index of the token that is read next."""

    def __init__(self, text):
        self.tokens = tokens_of(text)
        self.length = len(text)
        self.at = 0

    def is_at_end(self):
        """Tell whether all tokens have been read."""
        return self.at == len(self.tokens)

    def here(self):
        """Return the place of the next token, or the length of the text if there is none."""
        if self.is_at_end():
            return self.length
        return self.tokens[self.at][2]

    def kind(self):
        """Return the kind of the next token, where names are a kind beside words, or "end"."""
        if self.is_at_end():
            return "end"
        kind, value, _ = self.tokens[self.at]
        if kind == "word" and value not in RESERVED:
            return "name"
        return kind

    def word(self):
        """Return the next token if it is a reserved word or a symbol, otherwise an empty string."""
        if self.kind() == "word" or self.kind() == "symbol":
            return self.tokens[self.at][1]
        return ""

    def take(self, word):
        """Read the next token if it is this reserved word or symbol; tell whether it was."""
        if self.word() != word:
            return False
        self.at = self.at + 1
        return True

    def need(self, word):
        """Read the next token, which must be this reserved word or symbol."""
        if not self.take(word):
            raise UnexpectedToken(self.here())

    def need_one_of(self, words):
        """Read the next token, which must be one of these reserved words and symbols, and return it."""
        word = self.word()
        if word not in words:
            raise UnexpectedToken(self.here())
        self.at = self.at + 1
        return word

    def need_kind(self, kind):
        """Read the next token, which must be of this kind, and return its value."""
        if self.kind() != kind:
            raise UnexpectedToken(self.here())
        self.at = self.at + 1
        return self.tokens[self.at - 1][1]

    def need_end(self):
        """Make sure that all tokens have been read."""
        if not self.is_at_end():
            raise UnexpectedToken(self.here())

    def enter(self, word, level):
        """Read the next token, which is this one and stands on the level; return the level behind it."""
        if level >= DEEPEST_LEVEL:
            raise NestedTooDeeply(self.here())
        self.need(word)
        return level + 1
