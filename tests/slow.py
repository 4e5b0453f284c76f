"""Second readings of promises 21 to 44 for the tests: slow, and as near to the words of the document as can be."""

import itertools

from tests.plain import plain_holds, plain_moves

STEP_WORDS = ("go", "empty", "own", "foe", "at", "take", "lay")


def places_of(program):
    """The steps of the places."""
    if program[0] in STEP_WORDS:
        return [program]
    parts = [] if program[0] == "rest" else [program[1]] if program[0] == "any" else program[1]
    return [step for part in parts for step in places_of(part)]


def rows_of_places(program, most):
    """The set of the rows of places that the program spells, as far as they have at most so many places."""
    return rows_from(program, most, itertools.count(1))


def rows_from(program, most, numbers):
    word = program[0]
    if word in STEP_WORDS:
        return {(next(numbers),)}
    if word == "rest":
        return {()}
    if word == "any":
        inner = rows_from(program[1], most, numbers)
        found, fresh = {()}, {()}
        while fresh:
            fresh = put_behind(fresh, inner, most) - found
            found |= fresh
        return found
    parts = [rows_from(part, most, numbers) for part in program[1]]
    if word == "either":
        return set().union(*parts)
    found = {()}
    for part in parts:
        found = put_behind(found, part, most)
    return found


def put_behind(rows, others, most):
    return {row + other for row in rows for other in others if len(row + other) <= most}


def plain_build(program):
    """The rows and the ends of the built automaton, told from rows that are long enough to show each pair."""
    steps = places_of(program)
    spelled = rows_of_places(program, 2 * len(steps))
    rows = [sorted({row[0] for row in spelled if row})]
    for place in range(1, len(steps) + 1):
        rows.append(sorted({later for row in spelled for one, later in zip(row, row[1:]) if one == place}))
    ends = sorted({row[-1] if row else 0 for row in spelled})
    return [[(steps[place - 1], place) for place in row] for row in rows], ends


def plain_spells_program(program, row):
    """True if the program spells the row of steps."""
    return len(row) in ends_in_row(program, row, 0)


def ends_in_row(program, row, at):
    """The set of the indexes behind what the program spells of the row, from an index on."""
    word = program[0]
    if word in STEP_WORDS:
        return {at + 1} if row[at:at + 1] == [program] else set()
    if word == "rest":
        return {at}
    if word == "either":
        return set().union(*[ends_in_row(part, row, at) for part in program[1]])
    if word == "row":
        found = {at}
        for part in program[1]:
            found = set().union(*[ends_in_row(part, row, one) for one in found])
        return found
    found, fresh = {at}, {at}
    while fresh:
        fresh = set().union(*[ends_in_row(program[1], row, one) for one in fresh]) - found
        found |= fresh
    return found


def plain_spells(automaton, row, state=0):
    """True if the automaton spells the row of steps, begun at a state."""
    if not row:
        return state in automaton.ends
    return any(plain_spells(automaton, row[1:], later) for step, later in automaton.rows[state] if step == row[0])


def plain_difference(program, automaton, most):
    """The least of the shortest rows, of at most so many steps, on which the two part, or None."""
    steps = sorted(set(places_of(program)) | {step for row in automaton.rows for step, _ in row})
    for length in range(most + 1):
        for row in itertools.product(steps, repeat=length):
            if plain_spells(automaton, list(row)) != plain_spells_program(program, list(row)):
                return list(row)
    return None


def all_positions(game):
    """All positions of the game."""
    most = 2 * len(game.kinds)
    boards = list(itertools.product(range(most + 1), repeat=game.board.size))
    return [(turn, men) for turn in (0, 1) for men in boards]


def plain_after(position, move):
    turn, men = position
    start, stop, taken, kind = move
    left = [0 if field == start or field in taken else man for field, man in enumerate(men)]
    left[stop] = 1 + 2 * kind + turn
    return (1 - turn, tuple(left))


def plain_end(game, position):
    for condition, result in game.clauses:
        if plain_holds(game, position, condition):
            return result
    return None


def all_before(game):
    """A dict from positions to the list of all pairs (earlier, move), found by all moves of all positions."""
    found = {}
    for earlier in all_positions(game):
        if plain_end(game, earlier) is None:
            for move in plain_moves(game, earlier):
                found.setdefault(plain_after(earlier, move), []).append((earlier, move))
    return found


def within_limits(position, limits):
    return all(position[1].count(man) <= most for man, most in enumerate(limits, start=1))


def plain_next(game, position):
    if plain_end(game, position) is not None:
        return []
    return sorted({plain_after(position, move) for move in plain_moves(game, position)})


def plain_reachable(game, positions):
    found, fresh = set(positions), set(positions)
    while fresh:
        fresh = {later for position in fresh for later in plain_next(game, position)} - found
        found |= fresh
    return sorted(found)


def plain_book(game, positions):
    """The book of all positions that can be reached, its values told for one number after the other."""
    table = {position: plain_next(game, position) for position in plain_reachable(game, positions)}
    book = {}
    for position in table:
        result = plain_end(game, position)
        if result is not None:
            book[position] = ("drawn",) if result == "drawn" else (result, 0)
        elif not table[position]:
            book[position] = ("lost", 0)
    for n in range(1, len(table) + 1):
        told = {}
        for position in table:
            if position not in book:
                values = [book.get(later, ("drawn",)) for later in table[position]]
                if ("lost", n - 1) in values:
                    told[position] = ("won", n)
                elif all(value[0] == "won" and value[1] <= n - 1 for value in values):
                    told[position] = ("lost", n)
        book.update(told)
    return {position: book.get(position, ("drawn",)) for position in table}


def plain_judge(game, book):
    """What the judge tells of a book."""
    for position in sorted(book):
        reason = plain_reason(game, book, position)
        if reason:
            return (position, reason)
    return None


def is_plain_value(value):
    return value in [("drawn",)] or len(value) == 2 and value[0] in ("won", "lost") and value[1] >= 0


def plain_reason(game, book, position):
    turn, men = position
    if turn not in (0, 1) or len(men) != game.board.size or set(men) - set(range(2 * len(game.kinds) + 1)):
        return "position"
    if not is_plain_value(book[position]):
        return "value"
    behind = plain_next(game, position)
    if not behind:
        result = plain_end(game, position) or "lost"
        return None if book[position] == (("drawn",) if result == "drawn" else (result, 0)) else "over"
    if any(later not in book or not is_plain_value(book[later]) for later in behind):
        return "next"
    values = [book[later] for later in behind]
    lost = sorted(value[1] for value in values if value[0] == "lost")
    won = sorted(value[1] for value in values if value[0] == "won")
    due = ("won", lost[0] + 1) if lost else ("lost", won[-1] + 1) if len(won) == len(values) else ("drawn",)
    return None if book[position] == due else "wrong"


def plain_mirrors(game):
    """All mirrors: each tuple is tried that could be one."""
    fields = itertools.permutations(range(game.board.size))
    ways = itertools.permutations(range(len(game.board.ways)))
    tried = itertools.product(fields, ways, (False, True))
    return sorted(mirror for mirror in tried if is_plain_mirror(game, mirror))


def is_plain_mirror(game, mirror):
    fields, ways, exchange = mirror
    rows = [row for _, row in game.board.ways]
    for way, field in itertools.product(range(len(rows)), range(game.board.size)):
        there, other = rows[way][field], rows[ways[way]][fields[field]]
        if (there == -1) != (other == -1) or (there != -1 and fields[there] != other):
            return False
    for pair, side in itertools.product(game.programs, (0, 1)):
        if with_ways(pair[side], ways) != pair[1 - side if exchange else side]:
            return False
    return all(with_fields(condition, fields) == condition for condition, _ in game.clauses)


def with_ways(program, ways):
    if program[0] == "go":
        return ("go", ways[program[1]])
    return tuple(with_ways(part, ways) if isinstance(part, tuple) else
                 [with_ways(one, ways) for one in part] if isinstance(part, list) else part for part in program)


def with_fields(condition, fields):
    return tuple(with_fields(part, fields) if isinstance(part, tuple) else
                 sorted(fields[field] for field in part) if isinstance(part, list) else part for part in condition)
