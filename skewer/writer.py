"""The written forms of games, programs, conditions and positions."""

from skewer.runs import kind_of, side_of


def write_game(game):
    """Returns the text of the game, with a newline at the end of each line."""
    lines = [f"board {game.board.size}"]
    lines.extend([way_line(name, leads) for name, leads in game.board.ways])
    lines.extend([f"kind {name}" for name in game.kinds])
    for name, pair in zip(game.kinds, game.programs):
        for side in (0, 1):
            lines.append(f"program {name} {side} = {write_program(game, pair[side])}")
    for condition, result in game.clauses:
        lines.append(f"clause {result} if {write_condition(game, condition)}")
    return "".join([line + "\n" for line in lines])


def way_line(name, leads):
    rows = [joined_numbers(row) for row in rows_of_way(leads)]
    return " ".join(["way", name, "; ".join(rows)]) if rows else f"way {name}"


def joined_numbers(numbers):
    return " ".join([str(number) for number in numbers])


def rows_of_way(leads):
    """Returns the rows of fields as which a way is written; leads has the next field, or -1, of each field."""
    onward = [field for field in range(len(leads)) if leads[field] != -1]
    heads = [field for field in onward if field not in leads]
    rows = []
    passed = {}
    for first in heads + onward:
        if first not in passed:
            row = row_from(leads, first, passed)
            rows.append(row)
            passed.update({field: True for field in row[:-1]})
    return rows


def row_from(leads, first, passed):
    """Returns the row that begins with a field; passed has the fields that lead on in earlier rows."""
    row = [first]
    while leads[row[-1]] != -1 and row[-1] not in passed and row[-1] not in row[:-1]:
        row.append(leads[row[-1]])
    return row


def write_program(game, program):
    """Returns the written form of the program."""
    word = program[0]
    if word == "go":
        return f"go {game.board.ways[program[1]][0]}"
    if word in ("at", "lay"):
        return f"{word} {game.kinds[program[1]]}"
    if word in ("row", "either"):
        return in_parentheses(word, [write_program(game, inner) for inner in program[1]])
    if word == "any":
        return in_parentheses(word, [write_program(game, program[1])])
    return word


def write_condition(game, condition):
    """Returns the written form of the condition."""
    word = condition[0]
    if word in ("lacks", "foelacks"):
        return f"{word} {game.kinds[condition[1]]}"
    if word in ("holds", "foeholds"):
        return f"{word} {game.kinds[condition[1]]} on {joined_numbers(condition[2])}"
    if word == "few":
        return f"few {condition[1]}"
    if word in ("not", "and", "or"):
        return in_parentheses(word, [write_condition(game, inner) for inner in condition[1:]])
    return word


def in_parentheses(word, parts):
    return word + "(" + ", ".join(parts) + ")"


def write_position(game, position):
    """Returns the line of the position."""
    turn, men = position
    return " ".join(["turn", str(turn)] + [word_of_man(game, man) for man in men])


def word_of_man(game, man):
    return "." if man == 0 else f"{game.kinds[kind_of(man)]}{side_of(man)}"
