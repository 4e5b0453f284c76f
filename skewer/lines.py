"""Lines of best play, and problems; the books here are accepted and have the position."""

from skewer.runs import after, moves
from skewer.search import moves_in_play


def keeping_moves(game, book, position):
    """Returns the ascending list of the moves that keep the value; the empty list if the position is over."""
    kept = value_kept(book[position])
    return [move for move in moves_in_play(game, position) if book[after(game, position, move)] == kept]


def value_kept(value):
    """Returns the value for the other side behind a move that keeps this one."""
    if value == ("drawn",):
        return value
    word, number = value
    return ("lost" if word == "won" else "won", number - 1)


def best_line(game, book, position):
    """Returns the line of the least moves that keep the value; the empty list if the position is drawn."""
    line = []
    if book[position] == ("drawn",):
        return line
    kept = keeping_moves(game, book, position)
    while kept:
        line.append(kept[0])
        position = after(game, position, kept[0])
        kept = keeping_moves(game, book, position)
    return line


def ways_to_win(game, book, position):
    """Returns how many lines win from the position."""
    if book[position][0] != "won":
        return 0
    many = {position: 1}
    for _ in range(book[position][1]):
        many = many_behind(game, book, many)
    return sum(list(many.values()))


def many_behind(game, book, many):
    """Returns a dict that tells how many lines lead to positions, from how many lead to those one move ahead."""
    behind = {}
    for position in many:
        for move in keeping_moves(game, book, position):
            later = after(game, position, move)
            behind[later] = behind.get(later, 0) + many[position]
    return behind


def key(game, book, position):
    """Returns the key of a problem, or None if the position is no problem."""
    word = book[position][0]
    if word != "won" or book[position][1] % 2 == 0:
        return None
    kept = keeping_moves(game, book, position)
    return kept[0] if len(kept) == 1 else None


def is_sound(game, book, position):
    """Returns True if the position is a sound problem."""
    only = key(game, book, position)
    if only is None:
        return False
    others = [move for move in moves(game, position) if move != only]
    return all([book[after(game, position, move)][0] != "lost" for move in others])


def problems(game, book, n):
    """Returns the ascending list of the positions of the book that are problems of n moves."""
    won = sorted([position for position in book if book[position] == ("won", 2 * n - 1)])
    return [position for position in won if key(game, book, position) is not None]
