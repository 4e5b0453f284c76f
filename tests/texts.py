"""Texts of games for the tests, and how to ask for the error that a text raises."""

from skewer.errors import TextError

LINES = (
    "board 4",
    "way east 0 1 2 3",
    "way west 3 2 1 0",
    "kind man",
    "kind king",
    "program man 0 = any(row(go east, empty))",
    "program man 1 = row(go west, foe, take, go west, empty)",
    "program king 0 = either(go east, go west)",
    "program king 1 = rest",
    "clause lost if lacks man",
    "clause won if few 2",
)


def text_of(lines):
    return "".join([line + "\n" for line in lines])


def whole_text():
    return text_of(LINES)


def with_line(number, line):
    """The text with another line in the place of the one with this number, from 1."""
    return text_of(list(LINES[:number - 1]) + [line] + list(LINES[number:]))


def with_more(line):
    """The text with a further line behind the last one."""
    return text_of(list(LINES) + [line])


def unmarked(line):
    """The line without its first `@`, and the column at which this stood."""
    column = line.index("@") + 1
    return (line[:column - 1] + line[column:], column)


def error_of(action, *arguments):
    """What the TextError tells that the call raises; None if it raises none."""
    try:
        action(*arguments)
    except TextError as error:
        return (error.line, error.column, error.reason)
    return None
