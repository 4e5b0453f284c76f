"""The tokens of a line: words, numbers and signs."""

from skewer.errors import TextError
from skewer.syntax import LETTERS, MOST_LETTERS

# Not str.isdigit: it takes digits of other scripts, too.
DIGITS = "0123456789"
SIGNS = "=;,()"
MOST_DIGITS = 6


def tokens(line, number):
    """Returns the tokens of the line with this number, tuples (kind, text, column)."""
    found = []
    at = 0
    while at < len(line):
        if line[at] == " ":
            at += 1
        else:
            kind, text = token_at(line, number, at)
            found.append((kind, text, at + 1))
            at += len(text)
    return found


def token_at(line, number, at):
    """Returns the kind and the text of the token that begins at an index of the line."""
    first = line[at]
    if first in SIGNS:
        return ("sign", first)
    if first in LETTERS:
        return ("word", word_at(line, number, at))
    if first in DIGITS:
        return ("number", digits_at(line, number, at))
    raise TextError(number, at + 1, "character")


def word_at(line, number, at):
    word = longest_row(line, at, LETTERS)
    if len(word) > MOST_LETTERS:
        raise TextError(number, at + 1, "word")
    return word


def digits_at(line, number, at):
    digits = longest_row(line, at, DIGITS)
    if len(digits) > MOST_DIGITS or (digits[0] == "0" and digits != "0"):
        raise TextError(number, at + 1, "number")
    return digits


def longest_row(line, at, letters):
    """Returns the longest piece of the line from an index on that has these letters only."""
    end = at
    while end < len(line) and line[end] in letters:
        end += 1
    return line[at:end]
