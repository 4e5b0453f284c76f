"""The positions before a position: programs run backwards."""

from skewer.clauses import end
from skewer.generator import build, steps_of
from skewer.runs import is_as_asked, kind_of, man_of, moves_to, side_of, with_man


def limits_of(game, position):
    """Returns the limits that are the numbers of the men of the position."""
    return [position[1].count(man) for man in men_of(game)]


def men_of(game):
    """Returns the men of the game, ascending."""
    return list(range(1, 2 * len(game.kinds) + 1))


def before(game, position, limits):
    """Returns the ascending list of the pairs (earlier, move) whose move leads to the position, within the limits."""
    turn, men = position
    side = 1 - turn
    ends = [(field, with_man(men, field, 0), kind_of(men[field]))
            for field in range(len(men)) if men[field] != 0 and side_of(men[field]) == side]
    found = {}
    for kind in range(len(game.kinds)):
        rewinder = Rewinder(game, side, kind, limits)
        for spot in ends:
            for pair in rewinder.pairs_to(spot):
                found[pair] = True
    return sorted([pair for pair in found if end(game, pair[0]) is None])


class Rewinder:
    """Runs the automaton of one kind and side backwards, from the spot at which its program has ended."""

    def __init__(self, game, side, kind, limits):
        automaton = build(game, kind, side)
        self.game = game
        self.side = side
        self.kind = kind
        self.ends = automaton.ends
        # State 0 has no step: no pair leads to it.
        self.steps = [None] + steps_of(game.programs[kind][side])
        self.origins = origins_of(automaton)
        self.room = room_beside(game, limits, man_of(side, kind))

    def pairs_to(self, last):
        """Returns the pairs (earlier, move) of the moves that end at this spot."""
        found = []
        for start, men, _ in self.first_spots(last):
            earlier = (self.side, with_man(men, start, man_of(self.side, self.kind)))
            found.extend([(earlier, move) for move in moves_to(earlier, start, [last])])
        return found

    def first_spots(self, last):
        """Returns the spots, each once, at which the program can begin to end at this spot."""
        if not self.has_room_for(last[1]):
            return []
        todo = [(state, last) for state in self.ends]
        seen = {situation: True for situation in todo}
        while todo:
            state, spot = todo.pop()
            for situation in self.situations_ahead(state, spot):
                if situation not in seen:
                    seen[situation] = True
                    todo.append(situation)
        return [spot for state, spot in seen if state == 0 and self.can_begin_at(spot)]

    def has_room_for(self, men):
        return all([men.count(man) <= most for man, most in self.room.items()])

    def can_begin_at(self, spot):
        """Returns True if the man of the program has its own kind there, and no other man stands on its field."""
        field, men, kind = spot
        return men[field] == 0 and kind == self.kind

    def situations_ahead(self, state, spot):
        """Returns the situations, pairs (state, spot), from which one pair of the automaton leads to this one."""
        if state == 0:
            return []
        spots = self.spots_ahead(self.steps[state], spot)
        return [(origin, earlier) for origin in self.origins[state] for earlier in spots]

    def spots_ahead(self, step, spot):
        """Returns the spots from which the step leads to this one."""
        field, men, kind = spot
        word = step[0]
        if word == "go":
            leads = self.game.board.ways[step[1]][1]
            return [(start, men, kind) for start in range(len(leads)) if leads[start] == field]
        if word == "take":
            return self.spots_ahead_of_take(spot)
        if word == "lay":
            return [(field, men, old) for old in range(len(self.game.kinds))] if kind == step[1] else []
        return [spot] if is_as_asked(self.side, step, men[field]) else []

    def spots_ahead_of_take(self, spot):
        """Returns the spots with a man on the field for each one that the limits leave room for."""
        field, men, kind = spot
        if men[field] != 0:
            return []
        taken = [man for man, most in self.room.items() if men.count(man) < most]
        return [(field, with_man(men, field, man), kind) for man in taken]


def origins_of(automaton):
    """Returns for each state the list of the states from which a pair leads to it."""
    origins = [[] for _ in automaton.rows]
    for origin, row in enumerate(automaton.rows):
        for _, state in row:
            origins[state].append(origin)
    return origins


def room_beside(game, limits, moving):
    """Returns a dict that tells of each man how many there may be beside the moving man."""
    return {man: limits[man - 1] - 1 if man == moving else limits[man - 1] for man in men_of(game)}
