"""A reader goes through the tokens of a text, for the parser."""

from pourparler.errors import Malformed
from pourparler.lexer import tokens


class Reader:
    """Reads the tokens of a text, one after the other."""

    def __init__(self, text):
        # A mark at the end of the text, so that there always is a next token.
        self.stream = tokens(text) + [("stop", None, len(text))]
        self.position = 0

    def value(self):
        """Returns the value of the next token, None at the end."""
        return self.stream[self.position][1]

    def place(self):
        """Returns the index of the next token in the text; at the end, the length of the text."""
        return self.stream[self.position][2]

    def has(self, kind):
        """Tells whether the next token is of a kind."""
        return self.stream[self.position][0] == kind

    def advance(self):
        """Goes behind the next token and returns its value; not called at the end."""
        value = self.value()
        self.position += 1
        return value

    def skip(self, value):
        """Goes behind the next token if it is this word or sign; tells whether it is."""
        if self.value() != value:
            return False
        self.position += 1
        return True

    def take(self, value):
        """Goes behind the next token, which must be this word or sign."""
        if not self.skip(value):
            raise Malformed(self.place())

    def take_name(self):
        """Goes behind the next token, which must be a name, and returns the name."""
        if not self.has("name"):
            raise Malformed(self.place())
        return self.advance()

    def finish(self):
        """Raises an error if a token is left."""
        if not self.has("stop"):
            raise Malformed(self.place())
