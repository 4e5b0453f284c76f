"""Conditions, and when play ends."""

from skewer.runs import man_of, moves


def holds(game, position, condition):
    """Returns True if the condition holds in the position, for the side to move."""
    word = condition[0]
    if word == "not":
        return not holds(game, position, condition[1])
    if word == "and":
        return holds(game, position, condition[1]) and holds(game, position, condition[2])
    if word == "or":
        return holds(game, position, condition[1]) or holds(game, position, condition[2])
    if word == "stuck":
        return not moves(game, position)
    if word == "few":
        return number_of_men(position) <= condition[1]
    return holds_for_men(position, condition)


def number_of_men(position):
    """Returns how many men there are, of both sides together."""
    men = position[1]
    return len(men) - men.count(0)


def holds_for_men(position, condition):
    """Returns True if a condition holds that asks for men of one side and kind."""
    turn, men = position
    word = condition[0]
    side = turn if word in ("lacks", "holds") else 1 - turn
    man = man_of(side, condition[1])
    if word in ("lacks", "foelacks"):
        return man not in men
    return man in [men[field] for field in condition[2]]


def end(game, position):
    """Returns the end of the position, for the side to move, or None."""
    for condition, result in game.clauses:
        if holds(game, position, condition):
            return result
    return None


def is_over(game, position):
    """Returns True if the position has an end or no move."""
    return end(game, position) is not None or not moves(game, position)
