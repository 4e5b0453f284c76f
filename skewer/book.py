"""Books: the values of positions under best play."""

from heapq import heapify, heappop, heappush

from skewer.clauses import end
from skewer.errors import TooLarge
from skewer.runs import after, moves

MOST_POSITIONS = 20000
DRAWN = ("drawn",)


def next_positions(game, position):
    """Returns the ascending list of the next positions, each once; the empty list if the position is over."""
    if end(game, position) is not None:
        return []
    return sorted({after(game, position, move) for move in moves(game, position)})


def reachable(game, positions):
    """Returns the ascending list of the positions that can be reached from the given ones."""
    return sorted(next_table(game, positions))


def next_table(game, positions):
    """Returns a dict from the positions that can be reached to the lists of their next positions."""
    known = {position: True for position in positions}
    todo = list(known)
    table = {}
    while todo and len(known) <= MOST_POSITIONS:
        position = todo.pop()
        table[position] = next_positions(game, position)
        for later in table[position]:
            if later not in known:
                known[later] = True
                todo.append(later)
    if len(known) > MOST_POSITIONS:
        raise TooLarge("positions")
    return table


def over_value(game, position):
    """Returns the value of a position that is over, otherwise None."""
    result = end(game, position)
    if result is None:
        return None if moves(game, position) else ("lost", 0)
    return DRAWN if result == "drawn" else (result, 0)


def solve(game, positions):
    """Returns the book of all positions that can be reached from the given ones."""
    return book_of(game, next_table(game, positions), {})


def book_of(game, table, known):
    """Returns the book of the positions of a table, which has the list of the next positions of each.

    A book with right values has those of them that are not in the table.
    """
    told = first_values(game, table, known)
    queue = [(told[position][1], position) for position in told if told[position] != DRAWN]
    heapify(queue)
    left = {position: len(table[position]) for position in table}
    origins = origins_of(table)
    # The values come in the order of their numbers, so that the first lost next position, or the last won one, counts.
    while queue:
        number, position = heappop(queue)
        is_lost = told[position][0] == "lost"
        for origin in origins.get(position, []):
            left[origin] -= 1
            if origin not in told and (is_lost or left[origin] == 0):
                told[origin] = ("won" if is_lost else "lost", number + 1)
                heappush(queue, (number + 1, origin))
    return {position: told.get(position, DRAWN) for position in table}


def first_values(game, table, known):
    """Returns a dict with the values of the positions of a table that are over, and of next ones that a book has."""
    told = {}
    for position in table:
        if not table[position]:
            told[position] = over_value(game, position)
        for later in table[position]:
            if later not in table and later in known:
                told[later] = known[later]
    return told


def origins_of(table):
    """Returns a dict from next positions to the lists of those positions of a table to which they are next."""
    origins = {}
    for position in table:
        for later in table[position]:
            origins.setdefault(later, []).append(position)
    return origins
