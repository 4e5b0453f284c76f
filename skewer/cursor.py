"""The tokens of a line, passed from left to right."""

from skewer.errors import TextError
from skewer.lexer import tokens
from skewer.syntax import is_name


class Cursor:
    """Stands ahead of a token of a line, or behind the last one, and refuses what is not due there."""

    def __init__(self, line, number):
        self.number = number
        self.width = len(line)
        self.pieces = tokens(line, number)
        self.at = 0

    def is_done(self):
        return self.at == len(self.pieces)

    def is_at_number(self):
        return not self.is_done() and self.pieces[self.at][0] == "number"

    def text(self):
        """Returns the text of the token ahead, or the empty string if there is none."""
        return "" if self.is_done() else self.pieces[self.at][1]

    def refuse(self, reason):
        """Raises the error at the token ahead, or behind the last character if there is none."""
        column = self.width + 1 if self.is_done() else self.pieces[self.at][2]
        raise TextError(self.number, column, reason)

    def refuse_passed(self, reason):
        """Raises the error at the token that was passed last."""
        raise TextError(self.number, self.pieces[self.at - 1][2], reason)

    def pass_token(self):
        self.at += 1

    def pass_end(self):
        """Refuses a token that stands behind the end of the line's form."""
        if not self.is_done():
            self.refuse("expected")

    def pass_text(self, text):
        self.pass_one_of([text])

    def pass_one_of(self, texts):
        """Passes one of these texts, and returns it."""
        text = self.text()
        if text not in texts:
            self.refuse("expected")
        self.pass_token()
        return text

    def pass_number(self, least, most):
        """Passes a number from least to most, and returns it."""
        if not self.is_at_number():
            self.refuse("expected")
        number = int(self.text())
        if not least <= number <= most:
            self.refuse("range")
        self.pass_token()
        return number

    def pass_known(self, names):
        """Passes one of these names, and returns its number among them."""
        name = self.name_ahead()
        if name not in names:
            self.refuse("unknown")
        self.pass_token()
        return names.index(name)

    def pass_new(self, names):
        """Passes a name that is none of these, and returns it."""
        name = self.name_ahead()
        if name in names:
            self.refuse("twice")
        self.pass_token()
        return name

    def name_ahead(self):
        if not is_name(self.text()):
            self.refuse("expected")
        return self.text()
