"""The tokens of a text, read from left to right."""

from oneowner.errors import Unexpected
from oneowner.tokens import tokens


class Cursor:
    """The tokens of a text, and which of them is the next one."""

    def __init__(self, text):
        self.tokens = tokens(text)
        self.at = 0

    def next_kind(self):
        """The kind of the next token."""
        return self.tokens[self.at][0]

    def next_text(self):
        """The text of the next token."""
        return self.tokens[self.at][1]

    def step(self):
        """Goes behind the next token and returns its text."""
        text = self.next_text()
        self.at += 1
        return text

    def skip(self, text):
        """Goes behind the next token if it is this keyword or sign; tells whether it is."""
        if self.next_text() != text:
            return False
        self.at += 1
        return True

    def want(self, text):
        """Goes behind the next token, which must be this keyword or sign."""
        if not self.skip(text):
            self.refuse()

    def want_end(self):
        """Sees to it that no token is left but the end."""
        if self.next_kind() != "end":
            self.refuse()

    def read_name(self):
        """Goes behind the next token, which must be a name, and returns its text."""
        if self.next_kind() != "name":
            self.refuse()
        return self.step()

    def read_bare_names(self):
        """name ("," name)*"""
        names = [self.read_name()]
        while self.skip(","):
            names.append(self.read_name())
        return tuple(names)

    def refuse(self):
        """Raises Unexpected with the place of the next token."""
        token = self.tokens[self.at]
        raise Unexpected(token[2], token[3])
