"""Mirrors of a game, and books up to them."""

from skewer.errors import TooLarge
from skewer.generator import steps_of
from skewer.matching import matches
from skewer.runs import kind_of, man_of, side_of
from skewer.syntax import inner_conditions, inner_programs

MOST_MIRRORS = 400


def is_mirror(game, mirror):
    """Returns True if the tuple is a mirror of the game."""
    fields, ways, exchange = mirror
    rows = [row for _, row in game.board.ways]
    if not is_order(fields, game.board.size) or not is_order(ways, len(rows)):
        return False
    if not all([leads_likewise(row, rows[ways[way]], fields) for way, row in enumerate(rows)]):
        return False
    if not are_programs_mirrored(game, ways, exchange):
        return False
    return all([condition_with_fields(condition, fields) == condition for condition, _ in game.clauses])


def is_order(numbers, limit):
    """Returns True if each number from 0 to below the limit occurs once, and no other one."""
    return sorted(numbers) == list(range(limit))


def leads_likewise(row, other, fields):
    """Returns True if a way leads from the mirrored fields to those to which the first one leads, mirrored."""
    for field, there in enumerate(row):
        if other[fields[field]] != (-1 if there == -1 else fields[there]):
            return False
    return True


def are_programs_mirrored(game, ways, exchange):
    """Returns True if each program, with its ways replaced, is that of the same kind and of the side in question."""
    return all([program_with_ways(program, ways) == other for program, other in pairs_of_programs(game, exchange)])


def pairs_of_programs(game, exchange):
    """Returns the list of pairs of a program and of the one that it has to be when its ways are replaced."""
    pairs = []
    for first, second in game.programs:
        pairs.extend([(first, second), (second, first)] if exchange else [(first, first), (second, second)])
    return pairs


def program_with_ways(program, ways):
    """Returns the program with each way w replaced by ways[w]."""
    word = program[0]
    if word == "go":
        return (word, ways[program[1]])
    if word == "any":
        return (word, program_with_ways(program[1], ways))
    if word in ("row", "either"):
        return (word, [program_with_ways(inner, ways) for inner in inner_programs(program)])
    return program


def condition_with_fields(condition, fields):
    """Returns the condition with each field f replaced by fields[f]."""
    word = condition[0]
    if word in ("holds", "foeholds"):
        return (word, condition[1], sorted([fields[field] for field in condition[2]]))
    inner = [condition_with_fields(one, fields) for one in inner_conditions(condition)]
    return (word, *inner) if inner else condition


def mirrors(game):
    """Returns the ascending list of all mirrors of the game."""
    found = mirrors_with(game, False) + mirrors_with(game, True)
    if len(found) > MOST_MIRRORS:
        raise TooLarge("mirrors")
    return sorted(found)


def mirrors_with(game, exchange):
    """Returns the mirrors with or without exchange; of too many only some, but more than the greatest number."""
    replaced = ways_of_programs(game, exchange)
    if replaced is None:
        return []
    size = game.board.size
    fields = colours_of_fields(game)
    ways = range(len(game.board.ways))
    left = fields + [(1, way if way in replaced else -1) for way in ways]
    right = list(fields) + [(1, -1) for _ in ways]
    for way, new in replaced.items():
        right[size + new] = (1, way)
    orders = matches([row for _, row in game.board.ways], left, right, MOST_MIRRORS)
    return [(tuple(order[:size]), tuple([place - size for place in order[size:]]), exchange) for order in orders]


def colours_of_fields(game):
    """Returns for each field a colour that tells in which rows of fields of the clauses it stands."""
    rows = [fields for condition, _ in game.clauses for fields in fields_in(condition)]
    return [(0, tuple([field in row for row in rows])) for field in range(game.board.size)]


def fields_in(condition):
    """Returns the rows of fields in a condition."""
    if condition[0] in ("holds", "foeholds"):
        return [condition[2]]
    return [fields for inner in inner_conditions(condition) for fields in fields_in(inner)]


def ways_of_programs(game, exchange):
    """Returns a dict from the ways in the programs to those that have to replace them, or None if none can."""
    replaced = {}
    for program, other in pairs_of_programs(game, exchange):
        ways = ways_in(program)
        others = ways_in(other)
        if len(ways) != len(others):
            return None
        for way, new in zip(ways, others):
            if replaced.setdefault(way, new) != new:
                return None
    return replaced if are_programs_mirrored(game, replaced, exchange) else None


def ways_in(program):
    """Returns the list of the ways in a program, in reading order."""
    return [step[1] for step in steps_of(program) if step[0] == "go"]


def mirrored(mirror, position):
    """Returns the mirror of the position."""
    fields, _, exchange = mirror
    turn, men = position
    placed = [0] * len(men)
    for field, man in enumerate(men):
        placed[fields[field]] = of_other_side(man) if exchange else man
    return (1 - turn if exchange else turn, tuple(placed))


def of_other_side(man):
    """Returns the man of the other side, or 0 for no man."""
    return 0 if man == 0 else man_of(1 - side_of(man), kind_of(man))


def mirrored_move(mirror, move):
    """Returns the mirror of the move."""
    fields = mirror[0]
    start, end, taken, kind = move
    return (fields[start], fields[end], tuple(sorted([fields[field] for field in taken])), kind)


def joined(first, second):
    """Returns the mirror that does the first one and then the second one."""
    fields = tuple([second[0][field] for field in first[0]])
    ways = tuple([second[1][way] for way in first[1]])
    return (fields, ways, first[2] != second[2])


def undone(mirror):
    """Returns the mirror that undoes one."""
    fields, ways, exchange = mirror
    return (undone_order(fields), undone_order(ways), exchange)


def undone_order(numbers):
    places = [0] * len(numbers)
    for place, number in enumerate(numbers):
        places[number] = place
    return tuple(places)


def representative(known, position):
    """Returns the representative of the position for a list of mirrors."""
    return min([position] + [mirrored(mirror, position) for mirror in known])


def small_book(known, book):
    """Returns the dict with the values of the representatives of a book's positions."""
    small = {}
    for position in sorted(book):
        least = representative(known, position)
        # The book need not have the representative itself, but only other mirrors of it.
        small[least] = book.get(least, book[position])
    return small


def value_by(known, small, position):
    """Returns the value of the position's representative in a small book, or None if it is not there."""
    return small.get(representative(known, position))
