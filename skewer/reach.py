"""Shortest games to a position, and the positions within a number of moves."""

from skewer.book import MOST_POSITIONS, next_positions
from skewer.errors import TooLarge
from skewer.search import shortest_line


def shortest_game(game, position, wanted):
    """Returns the shortest game from the position to the wanted one, a list of moves, or None if there is none."""
    return shortest_line(game, position, lambda one: one == wanted)


def within(game, position, n):
    """Returns the ascending list of the positions to which lines of at most n moves lead."""
    if n < 0:
        return []
    found = {position: True}
    fresh = [position]
    for _ in range(n):
        fresh = fresh_behind(game, fresh, found)
        if not fresh:
            break
    return sorted(found)


def fresh_behind(game, positions, found):
    """Returns the list of the next positions that have not been found yet, and adds them to the found ones."""
    fresh = []
    for position in positions:
        for later in next_positions(game, position):
            if later not in found:
                found[later] = True
                fresh.append(later)
        if len(found) > MOST_POSITIONS:
            raise TooLarge("positions")
    return fresh
