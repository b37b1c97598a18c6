"""Reads the tokens of a build file one by one, within the limits of the grammar."""

from truemill.errors import SyntaxProblem
from truemill.lexer import tokens

MOST_TOKENS = 600
MOST_DEPTH = 12
RESERVED = (
    "set", "make", "by", "with", "from", "needs", "if", "else",
    "each", "in", "shape", "use", "not", "files", "flag", "when",
)


class Reader:
    """Stands in front of a token of a file and knows how deep the tokens are nested there."""

    def __init__(self, text):
        self.rows = stopped_tokens(text)
        self.at = 0
        self.depth = 0

    def is_at_end(self):
        """Whether all tokens have been read."""
        return self.sees_kind("end")

    def sees_kind(self, kind):
        """Whether the next token is of a kind."""
        return self.rows[self.at][0] == kind

    def sees(self, value):
        """Whether the next token is a certain sign or word."""
        # A text may have the value of a sign or a word, but it is none.
        return self.rows[self.at][1] == value and not self.sees_kind("text")

    def sees_name(self):
        """Whether the next token is a word that is not reserved."""
        return self.sees_kind("word") and self.rows[self.at][1] not in RESERVED

    def place(self):
        """Return the line and the column of the next token."""
        token = self.rows[self.at]
        return (token[2], token[3])

    def fail(self):
        """Raise the error that the next token cannot stand here."""
        line, column = self.place()
        raise SyntaxProblem(line, column)

    def skip(self, value):
        """Read a certain sign or word."""
        if not self.sees(value):
            self.fail()
        self.at += 1

    def skip_if_seen(self, value):
        """Read a certain sign or word if it comes next; return whether it does."""
        if not self.sees(value):
            return False
        self.skip(value)
        return True

    def enter(self, value):
        """Read an opening brace or square bracket."""
        if self.depth == MOST_DEPTH:
            self.fail()
        self.skip(value)
        self.depth += 1

    def leave(self, value):
        """Read a closing brace or square bracket."""
        self.skip(value)
        self.depth -= 1

    def take_name(self):
        """Read a word that is not reserved and return it."""
        if not self.sees_name():
            self.fail()
        return self.take_value()

    def take_text(self):
        """Read a text and return what it stands for."""
        if not self.sees_kind("text"):
            self.fail()
        return self.take_value()

    def take_value(self):
        """Read any token and return its value."""
        value = self.rows[self.at][1]
        self.at += 1
        return value


def stopped_tokens(text):
    """Return the tokens of a text that may be read, and one behind them that can stand nowhere."""
    found = tokens(text)
    if len(found) > MOST_TOKENS:
        excess = found[MOST_TOKENS]
        return found[:MOST_TOKENS] + (("error", "", excess[2], excess[3]),)
    line = text.count("\n") + 1
    column = len(text) - text.rfind("\n")
    return found + (("end", "", line, column),)
