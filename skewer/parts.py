"""Books in parts, class by class."""

from skewer.book import book_of, next_positions, next_table
from skewer.judge import judge_positions
from skewer.runs import side_of


def class_of(position):
    """Returns the class of the position: how many men each side has."""
    sides = [side_of(man) for man in position[1] if man != 0]
    return (sides.count(0), sides.count(1))


def classes(game, positions):
    """Returns the list of the classes of all positions that can be reached, in order."""
    return classes_in_order(next_table(game, positions))


def classes_in_order(positions):
    found = {class_of(position): True for position in positions}
    return sorted(found, key=lambda pair: (pair[0] + pair[1], pair[0]))


def solve_part(game, known, positions):
    """Returns the book of positions of one class; their next positions are among them or in a known book."""
    return book_of(game, {position: next_positions(game, position) for position in positions}, known)


def solve_parts(game, positions):
    """Returns the list of the parts, pairs of a class and its book."""
    table = next_table(game, positions)
    whole = {}
    parts = []
    for pair in classes_in_order(table):
        part = book_of(game, {position: table[position] for position in table if class_of(position) == pair}, whole)
        parts.append((pair, part))
        for position in part:
            whole[position] = part[position]
    return parts


def judge_part(game, known, book):
    """Returns None if the book is accepted behind a known one, otherwise a position and a reason."""
    positions = sorted(book)
    for position in positions:
        if class_of(position) != class_of(positions[0]):
            return (position, "class")
    both = {position: known[position] for position in known}
    # Where both have a position, it is the value of the book that is judged.
    for position in book:
        both[position] = book[position]
    return judge_positions(game, both, positions)
