"""Desks for the tests, on which a game has been loaded."""

from skewer.desk import Desk

DUEL = (
    "board 3", "way east 0 1 2", "way west 2 1 0", "kind man",
    "program man 0 = row(go east, empty)", "program man 1 = row(go west, empty)",
)
# Two men of side 0 hunt one of side 1.
HUNT = (
    "board 6", "way east 0 1 2 3 4 5 0", "way west 0 5 4 3 2 1 0", "kind man",
    "program man 0 = row(either(go east, go west), either(empty, row(foe, take)))",
    "program man 1 = row(either(go east, go west), either(empty, row(foe, take)))",
)
HUNT_ROOT = "turn 0 man0 man0 . man1 . ."
DUEL_ROOT = "turn 0 man0 . man1"


def text_lines(lines):
    return ["text " + line for line in lines]


def desk_with(lines):
    """A new desk that has obeyed these lines, all of them."""
    desk = Desk()
    for line in lines:
        answer = desk.obey(line)
        assert answer[:1] == [] or not answer[0].startswith("refused"), (line, answer)
    return desk


def loaded_desk(lines=DUEL):
    return desk_with(text_lines(lines) + ["load"])


def solved_desk(lines=DUEL, *roots):
    roots = ["root " + root for root in roots or [DUEL_ROOT if lines == DUEL else HUNT_ROOT]]
    return desk_with(text_lines(lines) + ["load"] + roots + ["solve"])


def large_lines(ends=""):
    """A game in which from two men of each side more than 20000 positions can be reached."""
    row = " ".join([str(field) for field in list(range(24)) + [0]])
    lines = ["board 24", "way round " + row, "kind man"]
    return lines + [f"program man {side} = row(any(go round), empty)" for side in (0, 1)] + ([ends] if ends else [])


LARGE_ROOT = "turn 0 man0 man0 man1 man1" + " ." * 20


def told_by(desk):
    """All that a desk tells of what it keeps, in a form that can be compared."""
    game = desk.game()
    parts = None if game is None else (game.board.size, game.board.ways, game.kinds, game.clauses, game.programs)
    return (desk.lines(), parts, desk.book(), desk.roots())
