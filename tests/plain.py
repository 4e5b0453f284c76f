"""A second reading of promises 15, 16 and 18 for the tests: slow, with sets, and one spot after the other."""

import itertools


def plain_spots(game, side, program, spot):
    """The set of the spots at which the program can end, begun at the spot."""
    field, men, kind = spot
    word = program[0]
    man = men[field]
    if word == "go":
        there = game.board.ways[program[1]][1][field]
        return {(there, men, kind)} if there >= 0 else set()
    if word == "take":
        left = tuple(0 if at == field else men[at] for at in range(len(men)))
        return {(field, left, kind)} if man else set()
    if word == "lay":
        return {(field, men, program[1])}
    if word == "rest":
        return {spot}
    if word == "row":
        if not program[1]:
            return {spot}
        ends = [plain_spots(game, side, ("row", program[1][1:]), end) for end in
                plain_spots(game, side, program[1][0], spot)]
        return set().union(*ends)
    if word == "either":
        return set().union(*[plain_spots(game, side, inner, spot) for inner in program[1]])
    if word == "any":
        found, todo = {spot}, [spot]
        while todo:
            further = plain_spots(game, side, program[1], todo.pop()) - found
            found |= further
            todo.extend(further)
        return found
    is_so = {"empty": man == 0, "own": man != 0 and man % 2 != side, "foe": man != 0 and man % 2 == side}
    is_so["at"] = word == "at" and man in (1 + 2 * program[1], 2 + 2 * program[1])
    return {spot} if is_so[word] else set()


def plain_moves(game, position):
    """The moves: all tuples are tried that could be one."""
    turn, men = position
    size = len(men)
    found = []
    for start in range(size):
        if men[start] and (men[start] - 1) % 2 == turn:
            kind = (men[start] - 1) // 2
            begun = men[:start] + (0,) + men[start + 1:]
            ends = plain_spots(game, turn, game.programs[kind][turn], (start, begun, kind))
            others = [field for field in range(size) if begun[field]]
            for end, number, became in itertools.product(range(size), range(len(others) + 1), range(len(game.kinds))):
                for taken in itertools.combinations(others, number):
                    left = tuple(0 if field in taken else begun[field] for field in range(size))
                    behind = left[:end] + (1 + 2 * became + turn,) + left[end + 1:]
                    if (end, left, became) in ends and left[end] == 0 and behind != men:
                        found.append((start, end, taken, became))
    return sorted(set(found))


def plain_holds(game, position, condition):
    turn, men = position
    word = condition[0]
    if word in ("and", "or", "not"):
        inner = [plain_holds(game, position, one) for one in condition[1:]]
        return all(inner) if word == "and" else any(inner) if word == "or" else not inner[0]
    if word == "stuck":
        return plain_moves(game, position) == []
    if word == "few":
        return len([man for man in men if man]) <= condition[1]
    side = 1 - turn if word.startswith("foe") else turn
    fields = range(len(men)) if word.endswith("lacks") else condition[2]
    has = any(men[field] == 1 + 2 * condition[1] + side for field in fields)
    return has != word.endswith("lacks")
