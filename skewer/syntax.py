"""Boards and games, and when a game is let by."""

LETTERS = "abcdefghijklmnopqrstuvwxyz"
KEY_WORDS = (
    "board", "way", "kind", "program", "clause", "drop", "if", "won", "lost", "drawn", "go", "empty", "own", "foe",
    "at", "take", "lay", "rest", "row", "either", "any", "lacks", "holds", "on", "foelacks", "foeholds", "stuck",
    "few", "not", "and", "or", "nowhere", "turn",
)
RESULTS = ("won", "lost", "drawn")

MOST_LETTERS = 12
MOST_FIELDS = 24
MOST_WAYS = 8
MOST_KINDS = 6
MOST_CLAUSES = 12
MOST_PARTS = 60
MOST_DEPTH = 8
MOST_FEW = 999999


class Board:
    """Fields, numbered from 0, and named ways from field to field."""

    def __init__(self, size, ways):
        self.size = size
        self.ways = copied(ways)


class Game:
    """A board, the kinds of men, a pair of programs for each kind, and the clauses."""

    def __init__(self, board, kinds, clauses, programs):
        self.board = board
        self.kinds = copied(kinds)
        self.clauses = copied(clauses)
        self.programs = copied(programs)


def copied(whole):
    """Returns a copy of nested lists and tuples that shares no list with them."""
    # Without recursion, so that a program that is nested far too deep can still be made part of a game and judged.
    todo = [(whole, False)]
    done = []
    while todo:
        part, has_inner = todo.pop()
        if not isinstance(part, (list, tuple)):
            done.append(part)
        elif has_inner:
            first = len(done) - len(part)
            inner = done[first:]
            del done[first:]
            done.append(inner if isinstance(part, list) else tuple(inner))
        else:
            todo.append((part, True))
            todo.extend([(item, False) for item in reversed(part)])
    return done[0]


def same_game(game, other):
    """Returns True if all parts of the two games are equal."""
    return (
        game.board.size == other.board.size
        and game.board.ways == other.board.ways
        and game.kinds == other.kinds
        and game.clauses == other.clauses
        and game.programs == other.programs
    )


def is_name(word):
    """Returns True if the string is a name."""
    if not 1 <= len(word) <= MOST_LETTERS:
        return False
    return all([letter in LETTERS for letter in word]) and word not in KEY_WORDS


def is_let_by(game):
    """Returns True if the game and its board are as the document tells."""
    return (
        is_board_let_by(game.board)
        and 1 <= len(game.kinds) <= MOST_KINDS
        and are_different_names(game.kinds)
        and are_programs_let_by(game)
        and are_clauses_let_by(game)
    )


def is_board_let_by(board):
    if not 1 <= board.size <= MOST_FIELDS or not 1 <= len(board.ways) <= MOST_WAYS:
        return False
    if not all([is_pair(way) for way in board.ways]):
        return False
    if not are_different_names([name for name, _ in board.ways]):
        return False
    return all([is_row_of_way(row, board.size) for _, row in board.ways])


def is_row_of_way(row, size):
    return len(row) == size and all([field == -1 or is_number_below(field, size) for field in row])


def are_different_names(words):
    return all([is_name(word) for word in words]) and len(set(words)) == len(words)


def are_programs_let_by(game):
    if len(game.programs) != len(game.kinds) or not all([is_pair(pair) for pair in game.programs]):
        return False
    return all([is_program_let_by(game, program) for pair in game.programs for program in pair])


def is_program_let_by(game, program):
    return is_program(game, program, MOST_DEPTH) and number_of_parts(program) <= MOST_PARTS


def are_clauses_let_by(game):
    if len(game.clauses) > MOST_CLAUSES or not all([is_pair(clause) for clause in game.clauses]):
        return False
    return all([is_condition(game, condition, MOST_DEPTH) and result in RESULTS for condition, result in game.clauses])


def is_program(game, program, depth):
    """Returns True if it is a program for the game, nested at most so deep."""
    if depth == 0 or not is_part_of_program(game, program):
        return False
    return all([is_program(game, inner, depth - 1) for inner in inner_programs(program)])


def is_part_of_program(game, part):
    """Returns True if it is of the form of a program, whatever its inner programs are."""
    if not isinstance(part, tuple) or not 1 <= len(part) <= 2:
        return False
    word = part[0]
    if len(part) == 1:
        return word in ("empty", "own", "foe", "take", "rest")
    if word == "go":
        return is_number_below(part[1], len(game.board.ways))
    if word in ("at", "lay"):
        return is_number_below(part[1], len(game.kinds))
    if word in ("row", "either"):
        return isinstance(part[1], list)
    return word == "any"


def inner_programs(program):
    """Returns the programs directly in a program, from left to right."""
    if program[0] in ("row", "either"):
        return list(program[1])
    if program[0] == "any":
        return [program[1]]
    return []


def number_of_parts(program):
    return 1 + sum([number_of_parts(inner) for inner in inner_programs(program)])


def is_condition(game, condition, depth):
    """Returns True if it is a condition for the game, nested at most so deep."""
    if depth == 0 or not is_part_of_condition(game, condition):
        return False
    return all([is_condition(game, inner, depth - 1) for inner in inner_conditions(condition)])


def is_part_of_condition(game, part):
    """Returns True if it is of the form of a condition, whatever its inner conditions are."""
    if not isinstance(part, tuple) or not 1 <= len(part) <= 3:
        return False
    word = part[0]
    if len(part) == 1:
        return word == "stuck"
    if len(part) == 3:
        return word in ("and", "or") or is_part_with_fields(game, part)
    if word in ("lacks", "foelacks"):
        return is_number_below(part[1], len(game.kinds))
    if word == "few":
        return is_number_below(part[1], MOST_FEW + 1)
    return word == "not"


def is_part_with_fields(game, part):
    word, kind, fields = part
    return word in ("holds", "foeholds") and is_number_below(kind, len(game.kinds)) and are_fields(game, fields)


def are_fields(game, fields):
    """Returns True if it is an ascending list of different fields, at least one."""
    if not isinstance(fields, list) or not fields:
        return False
    if not all([is_number_below(field, game.board.size) for field in fields]):
        return False
    return all([low < high for low, high in zip(fields, fields[1:])])


def inner_conditions(condition):
    """Returns the conditions directly in a condition, from left to right."""
    return list(condition[1:]) if condition[0] in ("not", "and", "or") else []


def is_number_below(number, limit):
    # Python counts True and False among the integers, the document does not.
    return isinstance(number, int) and not isinstance(number, bool) and 0 <= number < limit


def is_pair(pair):
    return isinstance(pair, tuple) and len(pair) == 2
