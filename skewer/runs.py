"""The plain interpreter: men, the spots at which programs can end, and moves."""


def man_of(side, kind):
    """Returns the man of this side and kind."""
    return 1 + 2 * kind + side


def side_of(man):
    """Returns the side of a man that is not 0."""
    return (man - 1) % 2


def kind_of(man):
    """Returns the kind of a man that is not 0."""
    return (man - 1) // 2


def spots(game, side, program, spot):
    """Returns the ascending list of the spots at which the program can end, begun at a spot, each once."""
    return sorted(ends_from(game, side, program, [spot]))


def ends_from(game, side, program, begun):
    """Returns, in any order but each once, the spots at which the program can end, begun at one of these spots."""
    # All spots are carried on together, because row by row they could meet again and again.
    word = program[0]
    if word == "row":
        for inner in program[1]:
            begun = ends_from(game, side, inner, begun)
        return begun
    if word == "either":
        return ends_of_either(game, side, program[1], begun)
    if word == "any":
        return ends_of_any(game, side, program[1], begun)
    return ends_of_step(game, side, program, begun)


def ends_of_either(game, side, programs, begun):
    found = {}
    for program in programs:
        for spot in ends_from(game, side, program, begun):
            found[spot] = True
    return list(found)


def ends_of_any(game, side, program, begun):
    found = {spot: True for spot in begun}
    fresh = begun
    while fresh:
        fresh = [spot for spot in ends_from(game, side, program, fresh) if spot not in found]
        for spot in fresh:
            found[spot] = True
    return list(found)


def ends_of_step(game, side, step, begun):
    found = {}
    for spot in begun:
        end = end_of_step(game, side, step, spot)
        if end is not None:
            found[end] = True
    return list(found)


def end_of_step(game, side, step, spot):
    """Returns the spot at which a program without inner programs ends, or None if there is none."""
    field, men, kind = spot
    word = step[0]
    if word == "go":
        there = game.board.ways[step[1]][1][field]
        return None if there == -1 else (there, men, kind)
    if word == "take":
        return None if men[field] == 0 else (field, with_man(men, field, 0), kind)
    if word == "lay":
        return (field, men, step[1])
    if word == "rest":
        return spot
    return spot if is_as_asked(side, step, men[field]) else None


def is_as_asked(side, step, man):
    """Returns True if a step that asks for what stands on a field finds it; man is 0 for no man."""
    word = step[0]
    if man == 0:
        return word == "empty"
    if word == "own":
        return side_of(man) == side
    if word == "foe":
        return side_of(man) != side
    return word == "at" and kind_of(man) == step[1]


def with_man(men, field, man):
    """Returns the men with this one, or 0, on the field."""
    return men[:field] + (man,) + men[field + 1:]


def moves(game, position):
    """Returns the ascending list of the moves in the position, each once."""
    turn, men = position
    found = []
    for start, man in enumerate(men):
        if man != 0 and side_of(man) == turn:
            program = game.programs[kind_of(man)][turn]
            ends = spots(game, turn, program, first_spot(position, start))
            found.extend(moves_to(position, start, ends))
    return sorted(found)


def first_spot(position, start):
    """Returns the spot at which the program of the man on the field start begins."""
    men = position[1]
    return (start, with_man(men, start, 0), kind_of(men[start]))


def moves_to(position, start, ends):
    """Returns the moves of the man on the field start, if these are the spots at which its program can end."""
    begun = first_spot(position, start)
    found = []
    for spot in ends:
        end, left, kind = spot
        # Back at the spot where it began, all men stand as they were.
        if left[end] == 0 and spot != begun:
            found.append((start, end, taken_fields(begun[1], left), kind))
    return found


def taken_fields(men, left):
    """Returns the fields that have a man among the first men and none among those that are left."""
    return tuple([field for field in range(len(men)) if men[field] != 0 and left[field] == 0])


def after(game, position, move):
    """Returns the position behind a move of the position."""
    turn, men = position
    start, end, taken, kind = move
    left = list(men)
    left[start] = 0
    for field in taken:
        left[field] = 0
    left[end] = man_of(turn, kind)
    return (1 - turn, tuple(left))
