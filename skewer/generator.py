"""Automata: how they are built for programs, and the moves that they give."""

from skewer.runs import end_of_step, first_spot, kind_of, moves_to, side_of
from skewer.syntax import inner_programs, is_number_below, is_part_of_program

STEP_WORDS = ("go", "empty", "own", "foe", "at", "take", "lay")


class Automaton:
    """States, numbered from 0: for each a row of pairs (step, state), and the list of those at which it can end."""

    def __init__(self, rows, ends):
        self.rows = [list(row) for row in rows]
        self.ends = list(ends)


def steps_of(program):
    """Returns the list of the steps of the places of a program, in order."""
    if program[0] in STEP_WORDS:
        return [program]
    steps = []
    for inner in inner_programs(program):
        steps.extend(steps_of(inner))
    return steps


def build(game, kind, side):
    """Returns the automaton that is built for the program of this kind and side."""
    return build_for(game.programs[kind][side])


def build_for(program):
    """Returns the automaton that is built for the program."""
    steps = steps_of(program)
    whole = Outliner().outline(program)
    onward = [(0, place) for place in whole.firsts] + whole.pairs
    rows = [[] for _ in range(len(steps) + 1)]
    for place, behind in sorted(set(onward)):
        rows[place].append((steps[behind - 1], behind))
    return Automaton(rows, [0] + whole.lasts if whole.has_empty else whole.lasts)


class Outline:
    """What is told of the rows that a part of a program spells.

    It tells if the empty row is one of them, the places with which they begin and with which they end, ascending, and
    the pairs of places of which the second one comes right behind the first one in some of them.
    """

    def __init__(self, has_empty, firsts, lasts, pairs):
        self.has_empty = has_empty
        self.firsts = firsts
        self.lasts = lasts
        self.pairs = pairs

    def is_of_none(self):
        """Returns True if there is no row at all."""
        return not self.has_empty and not self.firsts


class Outliner:
    """Makes the outlines of the parts of one program, and numbers its places."""

    def __init__(self):
        self.places = 0

    def outline(self, program):
        word = program[0]
        if word == "row":
            return outline_of_row([self.outline(inner) for inner in program[1]])
        if word == "either":
            return outline_of_either([self.outline(inner) for inner in program[1]])
        if word == "any":
            return outline_of_any(self.outline(program[1]))
        if word == "rest":
            return Outline(True, [], [], [])
        self.places += 1
        return Outline(False, [self.places], [self.places], [])


def outline_of_row(outlines):
    whole = Outline(True, [], [], [])
    for outline in outlines:
        whole = one_behind_the_other(whole, outline)
    return whole


def one_behind_the_other(left, right):
    # Where one of the two has no row there is none of both, so that its places stand side by side in none.
    if left.is_of_none() or right.is_of_none():
        return Outline(False, [], [], [])
    firsts = left.firsts + right.firsts if left.has_empty else left.firsts
    lasts = left.lasts + right.lasts if right.has_empty else right.lasts
    pairs = left.pairs + right.pairs + all_pairs(left.lasts, right.firsts)
    return Outline(left.has_empty and right.has_empty, firsts, lasts, pairs)


def outline_of_either(outlines):
    whole = Outline(False, [], [], [])
    for outline in outlines:
        has_empty = whole.has_empty or outline.has_empty
        firsts = whole.firsts + outline.firsts
        lasts = whole.lasts + outline.lasts
        whole = Outline(has_empty, firsts, lasts, whole.pairs + outline.pairs)
    return whole


def outline_of_any(inner):
    return Outline(True, inner.firsts, inner.lasts, inner.pairs + all_pairs(inner.lasts, inner.firsts))


def all_pairs(places, others):
    return [(place, other) for place in places for other in others]


def fits(game, automaton):
    """Returns True if the automaton fits the game."""
    states = range(len(automaton.rows))
    ends = automaton.ends
    if not automaton.rows or not all([state in states for state in ends]):
        return False
    if not all([low < high for low, high in zip(ends, ends[1:])]):
        return False
    return all([is_step_of(game, step) and state in states for row in automaton.rows for step, state in row])


def is_step_of(game, step):
    """Returns True if it is a step whose way or kind, if it names one, is one of the game."""
    return is_part_of_program(game, step) and step[0] in STEP_WORDS


def spells(automaton, row):
    """Returns True if the automaton spells the row of steps."""
    states = [0] if automaton.rows else []
    for due in row:
        states = sorted({state for step, state in pairs_behind(automaton, states) if step == due})
    return is_end_among(automaton, states)


def is_end_among(automaton, states):
    """Returns True if one of the states is an end of the automaton."""
    return any([state in automaton.ends for state in states])


def pairs_behind(automaton, states):
    """Returns the pairs that lead on from these states; those that lead to no state are left out."""
    known = range(len(automaton.rows))
    return [pair for state in states if state in known for pair in automaton.rows[state] if pair[1] in known]


def moves_by_automata(game, position):
    """Returns the ascending list of all moves in the position, by the built automata."""
    turn, men = position
    built = {}
    found = []
    for field, man in enumerate(men):
        if man != 0 and side_of(man) == turn:
            kind = kind_of(man)
            if kind not in built:
                built[kind] = build(game, kind, turn)
            found.extend(moves_from(game, position, field, built[kind]))
    return sorted(found)


def moves_from(game, position, field, automaton):
    """Returns the ascending list of the moves of the man on the field by the automaton."""
    found = situations(game, position[0], automaton, first_spot(position, field))
    ends = sorted({spot for state, spot in found if state in automaton.ends})
    return sorted(moves_to(position, field, ends))


def situations(game, side, automaton, spot):
    """Returns the situations, pairs (state, spot), that come about from state 0 and a spot, each once."""
    todo = [(0, spot)]
    seen = {situation: True for situation in todo}
    while todo:
        state, here = todo.pop()
        for step, further in pairs_behind(automaton, [state]):
            there = spot_behind(game, side, step, here)
            if there is not None and (further, there) not in seen:
                seen[(further, there)] = True
                todo.append((further, there))
    return list(seen)


def spot_behind(game, side, step, spot):
    """Returns the spot at which the step can end, or None if there is none."""
    # An automaton that does not fit the game can name a way that the game does not have.
    if step[0] == "go" and not is_number_below(step[1], len(game.board.ways)):
        return None
    return end_of_step(game, side, step, spot)
