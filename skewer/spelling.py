"""Papers: short checks that an automaton spells what a program spells."""

from skewer.errors import TooLarge
from skewer.generator import build_for, is_end_among, pairs_behind

MOST_PAIRS = 500


def accepts_paper(program, automaton, paper):
    """Returns True if the paper is accepted for the program and the automaton."""
    built = build_for(program)
    if not all([are_states(automaton, states) and are_states(built, places) for states, places in paper]):
        return False
    known = {(tuple(states), tuple(places)): True for states, places in paper}
    if ((0,), (0,)) not in known:
        return False
    for pair in known:
        if is_parting(automaton, built, pair):
            return False
        if not all([behind in known for _, behind in pairs_of_steps(automaton, built, pair)]):
            return False
    return True


def are_states(automaton, states):
    """Returns True if these are states of the automaton, ascending and each once."""
    known = range(len(automaton.rows))
    if not all([state in known for state in states]):
        return False
    return all([low < high for low, high in zip(states, states[1:])])


def make_paper(program, automaton):
    """Returns ("paper", pairs) with an accepted paper, or ("differ", row) with the row on which the two part."""
    built = build_for(program)
    first = ((0,), (0,))
    if is_parting(automaton, built, first):
        return ("differ", [])
    # The pairs are found by the length of their rows, and those of equal lengths in the order of their rows.
    rows = {first: []}
    todo = [first]
    while todo:
        fresh = []
        for pair in todo:
            for step, behind in pairs_of_steps(automaton, built, pair):
                if behind not in rows:
                    rows[behind] = rows[pair] + [step]
                    if is_parting(automaton, built, behind):
                        return ("differ", rows[behind])
                    fresh.append(behind)
            if len(rows) > MOST_PAIRS:
                raise TooLarge("pairs")
        todo = fresh
    return ("paper", [(list(states), list(places)) for states, places in rows])


def is_parting(automaton, built, pair):
    """Returns True if just one of the two can end at the pair."""
    states, places = pair
    return is_end_among(automaton, states) != is_end_among(built, places)


def pairs_of_steps(automaton, built, pair):
    """Returns the list of the steps behind a pair, ascending, each with the pair to which it leads."""
    states = states_by_step(automaton, pair[0])
    places = states_by_step(built, pair[1])
    steps = sorted(set(list(states) + list(places)))
    return [(step, (ascending(states.get(step, {})), ascending(places.get(step, {})))) for step in steps]


def states_by_step(automaton, states):
    """Returns a dict from the steps behind these states to dicts of the states to which they lead."""
    found = {}
    for step, state in pairs_behind(automaton, states):
        found.setdefault(step, {})[state] = True
    return found


def ascending(states):
    return tuple(sorted(states))
