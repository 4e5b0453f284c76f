"""Disputes between two workers, and the records of them."""

from skewer.book import next_positions, over_value
from skewer.judge import value_behind
from skewer.syntax import copied
from skewer.workers import is_same, is_sound, number_of


def follows(answers):
    """Returns the value that follows from a list of sound claims for the next positions, at least one."""
    return value_behind(answers)


def settle(game, position, first, second):
    """Asks both workers for the position, and returns the record of their dispute; None if they tell the same."""
    claims = (first.ask(position), second.ask(position))
    if is_same(claims[0], claims[1]):
        return None
    return settle_claims(game, position, first, second, claims)


def settle_claims(game, position, first, second, claims):
    """Returns the record of the dispute of two workers with different claims, which they have told already."""
    # A claim can be a list, and the record is not to share it.
    claims = copied(claims)
    steps = []
    caught = []
    while not caught:
        over = over_value(game, position)
        later = next_positions(game, position)
        answers = (answers_of(first, over, claims[0], later), answers_of(second, over, claims[1], later))
        steps.append((position, claims, answers))
        caught = caught_at(over, claims, answers)
        if not caught:
            position, claims = step_behind(later, claims, answers)
    return (steps, caught)


def answers_of(worker, over, claim, later):
    """Returns the list of what the worker tells of the next positions, empty if it is not asked."""
    return [worker.ask(position) for position in later] if is_asked(over, claim) else []


def is_asked(over, claim):
    """Returns True if who has claimed this is asked further; over is the value if the position is over, or None."""
    return over is None and reason_of_claim(over, claim) is None


def reason_of_claim(over, claim):
    """Returns the reason for which the claim alone is caught, or None."""
    if not is_sound(claim):
        return "form"
    if over is not None:
        return None if claim == over else "over"
    return "early" if number_of(claim) == 0 else None


def reason_of_answers(claim, answers):
    """Returns the reason for which the claim is caught beside answers for the next positions, or None."""
    if not all([is_sound(answer) for answer in answers]):
        return "silent"
    return None if claim == follows(answers) else "wrong"


def caught_at(over, claims, answers):
    """Returns the ascending list of the pairs (number, reason) of those who are caught at a step."""
    found = []
    for number, claim in enumerate(claims):
        reason = reason_of_claim(over, claim)
        if is_asked(over, claim):
            reason = reason_of_answers(claim, answers[number])
        if reason is not None:
            found.append((number, reason))
    return found


def step_behind(later, claims, answers):
    """Returns the position at which a dispute goes on if nobody is caught, and the claims there."""
    lead = lead_of(claims)
    word, number = claims[lead]
    # The lead's claim follows from its answers and the other one is another, so there is such a position.
    if word == "won":
        at = answers[lead].index(("lost", number - 1))
    else:
        at = [one != other for one, other in zip(answers[0], answers[1])].index(True)
    return (later[at], (answers[0][at], answers[1][at]))


def lead_of(claims):
    """Returns the number of the worker whose claim has the lesser number; a claim without one is greater than all."""
    first = number_of(claims[0])
    second = number_of(claims[1])
    return 1 if second is not None and (first is None or second < first) else 0


def accepts_record(game, record):
    """Returns True if the record is accepted."""
    steps, caught = record
    if not steps or not caught or is_same(steps[0][1][0], steps[0][1][1]):
        return False
    for step, following in zip(steps, steps[1:]):
        # The claims of this step differ: the first ones do, and so do those to which each step so far has led.
        if not leads_on(game, step, following):
            return False
    return caught_in(game, steps[-1]) == caught


def leads_on(game, step, following):
    """Returns True if nobody is caught at a step of a record, and it leads to the one that follows."""
    if caught_in(game, step) != []:
        return False
    position, claims, answers = step
    expected, told = step_behind(next_positions(game, position), claims, answers)
    return following[0] == expected and all([is_same(one, other) for one, other in zip(following[1], told)])


def caught_in(game, step):
    """Returns the list of those who are caught at a step of a record; None if other answers were due."""
    position, claims, answers = step
    over = over_value(game, position)
    many = len(next_positions(game, position))
    due = [many if is_asked(over, claim) else 0 for claim in claims]
    return caught_at(over, claims, answers) if [len(told) for told in answers] == due else None
