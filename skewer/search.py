"""Shortest lines of play."""

from skewer.book import MOST_POSITIONS
from skewer.clauses import end
from skewer.errors import TooLarge
from skewer.runs import after, moves


def moves_in_play(game, position):
    """Returns the ascending list of the moves with which a line can go on; the empty list if the position is over."""
    return moves(game, position) if end(game, position) is None else []


def shortest_line(game, position, is_wanted):
    """Returns the least of the shortest lines from the position to one that is wanted, or None if there is none."""
    if is_wanted(position):
        return []
    # Positions are met in the order of their least shortest lines, as the moves are ascending.
    origins = {position: None}
    fresh = [position]
    while fresh:
        level = fresh
        fresh = []
        for earlier in level:
            for move in moves_in_play(game, earlier):
                later = after(game, earlier, move)
                if later not in origins:
                    origins[later] = (earlier, move)
                    fresh.append(later)
                    if len(origins) > MOST_POSITIONS:
                        raise TooLarge("positions")
                    if is_wanted(later):
                        return line_to(origins, later)
    return None


def line_to(origins, position):
    """Returns the line to a position; origins has for each met one the position and the move by which it was met."""
    line = []
    while origins[position] is not None:
        position, move = origins[position]
        line.append(move)
    return line[::-1]
