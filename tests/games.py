"""Games for the tests, made anew for each call."""

import copy

from skewer.syntax import Board, Game


def parts_of(game):
    """Copies of all parts of the game, to be compared later on."""
    return copy.deepcopy((game.board.size, game.board.ways, game.kinds, game.clauses, game.programs))


def ways_of(size=4):
    """East and west on a row of fields."""
    east = list(range(1, size)) + [-1]
    west = list(range(-1, size - 1))
    return [("east", east), ("west", west)]


def ride():
    return ("any", ("row", [("go", 0), ("empty",)]))


def hop():
    return ("row", [("go", 1), ("foe",), ("take",), ("go", 1), ("either", [("empty",), ("at", 1)]), ("lay", 1)])


def still():
    return ("rest",)


def lacks_or_holds():
    return ("or", ("lacks", 0), ("and", ("not", ("stuck",)), ("holds", 1, [0, 3])))


def board_of(size=4, ways=None):
    return Board(size, ways_of(size) if ways is None else ways)


def game_of(board=None, kinds=None, clauses=None, programs=None):
    """An ordinary game, but for the parts that are given."""
    board = board_of() if board is None else board
    kinds = ["man", "king"] if kinds is None else kinds
    clauses = [(lacks_or_holds(), "lost"), (("few", 2), "drawn")] if clauses is None else clauses
    programs = [(ride(), hop()), (still(), ("own",))] if programs is None else programs
    return Game(board, kinds, clauses, programs)


def with_program(program):
    """An ordinary game with this program for the second kind and side 1."""
    return game_of(programs=[(ride(), hop()), (still(), program)])


def with_condition(condition):
    """An ordinary game with this condition in its last clause."""
    return game_of(clauses=[(("stuck",), "won"), (condition, "drawn")])


def either(*programs):
    return ("either", list(programs))


def row(*programs):
    return ("row", list(programs))


def step_to(way):
    """A step to an empty field."""
    return row(("go", way), ("empty",))


def capture(way):
    """A step to a field with a foe, who is taken."""
    return row(("go", way), ("foe",), ("take",))


def walk(*ways):
    """Steps by these ways, to empty fields or by taking a foe."""
    return either(*[either(step_to(way), capture(way)) for way in ways])


def ring_of(size, programs, clauses=None, kinds=None):
    """A game on a ring of fields, with the ways east and west."""
    east = [(field + 1) % size for field in range(size)]
    west = [(field - 1) % size for field in range(size)]
    board = Board(size, [("east", east), ("west", west)])
    return Game(board, ["man", "king"][:len(programs)] if kinds is None else kinds, clauses or [], programs)
