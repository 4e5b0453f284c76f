"""Lines of play."""

from skewer.clauses import end
from skewer.errors import InvalidMove
from skewer.runs import after, moves


def line_after(game, position, line):
    """Returns the position behind the line that begins in a position."""
    for index, move in enumerate(line):
        if not can_be_played(game, position, move):
            raise InvalidMove(index)
        position = after(game, position, move)
    return position


def is_line(game, position, line):
    """Returns True if the list is a line from the position."""
    for move in line:
        if not can_be_played(game, position, move):
            return False
        position = after(game, position, move)
    return True


def can_be_played(game, position, move):
    """Returns True if the tuple is a move in the position, and the position is not over."""
    # A position that is over because it has no move needs no question of its own.
    return end(game, position) is None and move in moves(game, position)
