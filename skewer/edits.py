"""Two games, an elder and a newer one: where they differ, and the renewed book."""

from skewer.book import book_of, next_positions, next_table, origins_of, over_value
from skewer.errors import InvalidGame
from skewer.search import shortest_line


def differ(old, new, position):
    """Returns True if the games differ at the position."""
    check_alike(old, new)
    return differ_at(old, new, position, next_positions(new, position))


def check_alike(old, new):
    """Refuses games with other numbers of fields or of kinds."""
    if old.board.size != new.board.size:
        raise InvalidGame("fields")
    if len(old.kinds) != len(new.kinds):
        raise InvalidGame("kinds")


def differ_at(old, new, position, later):
    """Returns True if the games differ at the position, which has these next positions in the newer game."""
    if next_positions(old, position) != later:
        return True
    # Without next positions it is over in both games, with them in none.
    return not later and over_value(old, position) != over_value(new, position)


def touched(old, new, book, roots):
    """Returns the ascending list of the touched positions."""
    check_alike(old, new)
    return sorted(touched_in(old, new, book, next_table(new, roots)))


def touched_in(old, new, book, table):
    """Returns a dict with the touched positions of a table, which has the next positions in the newer game."""
    todo = [position for position in table
            if position not in book or differ_at(old, new, position, table[position])]
    found = {position: True for position in todo}
    origins = origins_of(table)
    while todo:
        position = todo.pop()
        for origin in origins.get(position, []):
            if origin not in found:
                found[origin] = True
                todo.append(origin)
    return found


def renew(old, new, book, roots):
    """Returns the renewed book, and the ascending list of the changes."""
    _, renewed, changes = renewal(old, new, book, roots)
    return (renewed, changes)


def renewal(old, new, book, roots):
    """Returns the number of the touched positions, the renewed book, and the ascending list of the changes."""
    check_alike(old, new)
    table = next_table(new, roots)
    hit = touched_in(old, new, book, table)
    renewed = {position: book[position] for position in table if position not in hit}
    told = book_of(new, {position: table[position] for position in hit}, renewed)
    for position in told:
        renewed[position] = told[position]
    return (len(hit), renewed, changes_of(book, renewed))


def changes_of(book, renewed):
    """Returns the ascending list of the tuples (position, old, new) where a renewed book tells another value."""
    both = sorted([position for position in renewed if position in book])
    return [(position, book[position], renewed[position]) for position in both if renewed[position] != book[position]]


def witness(old, new, book, position):
    """Returns the witness, a list of moves, or None if no position in question can be reached."""
    check_alike(old, new)
    table = next_table(new, [position])
    return shortest_line(new, position, lambda one: one not in book or differ_at(old, new, one, table[one]))
