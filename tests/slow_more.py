"""Second readings of promises 45 to 64 for the tests: slow, and as near to the words of the document as can be."""

import itertools

from tests.plain import plain_moves
from tests.slow import plain_after, plain_book, plain_end, plain_next, plain_reachable


def plain_sound(claim):
    if type(claim) is not tuple or len(claim) not in (1, 2):
        return False
    if len(claim) == 1:
        return claim[0] == "drawn"
    return claim[0] in ("won", "lost") and type(claim[1]) is int and claim[1] >= 0


def plain_number(claim):
    return claim[1] if len(claim) == 2 else None


def plain_follows(answers):
    """The value that point 35 tells from the values of the next positions."""
    lost = [claim[1] for claim in answers if claim[0] == "lost"]
    won = [claim[1] for claim in answers if claim[0] == "won"]
    if lost:
        return ("won", 1 + sorted(lost)[0])
    return ("lost", 1 + sorted(won)[-1]) if len(won) == len(answers) else ("drawn",)


def plain_over(game, position):
    """The value of a position that is over, or None."""
    result = plain_end(game, position)
    if result is None:
        return None if plain_moves(game, position) else ("lost", 0)
    return ("drawn",) if result == "drawn" else (result, 0)


def plain_step(game, position, claims, ask):
    """The answers and the caught ones of a step; ask(number, position) gives what a worker tells."""
    over = plain_over(game, position)
    reasons, answers = {}, ([], [])
    for number in (0, 1):
        if not plain_sound(claims[number]):
            reasons[number] = "form"
        elif over is not None and claims[number] != over:
            reasons[number] = "over"
        elif over is None and plain_number(claims[number]) == 0:
            reasons[number] = "early"
    if over is None:
        for number in (0, 1):
            if number not in reasons:
                answers[number].extend([ask(number, later) for later in plain_next(game, position)])
                if not all(plain_sound(answer) for answer in answers[number]):
                    reasons[number] = "silent"
                elif plain_follows(answers[number]) != claims[number]:
                    reasons[number] = "wrong"
    return answers, sorted(reasons.items())


def plain_further(game, position, claims, answers):
    """The position at which a dispute goes on, and the claims there."""
    numbers = [10 ** 9 if plain_number(claim) is None else plain_number(claim) for claim in claims]
    lead = 0 if numbers[0] <= numbers[1] else 1
    for later, one, other in zip(plain_next(game, position), *answers):
        if claims[lead][0] == "won" and (one, other)[lead] == ("lost", numbers[lead] - 1):
            return later, (one, other)
        if claims[lead][0] == "lost" and one != other:
            return later, (one, other)
    raise AssertionError("there is such a position")


def plain_settle(game, position, claims, books):
    """The record of the dispute of two workers who tell what these dicts tell."""
    steps = []
    while True:
        answers, caught = plain_step(game, position, claims, lambda number, later: books[number].get(later))
        steps.append((position, claims, answers))
        if caught:
            return steps, caught
        position, claims = plain_further(game, position, claims, answers)


def plain_accepts(game, record):
    """True if the record is the one of two workers who tell just what it says."""
    steps, caught = record
    if not steps or steps[0][1][0] == steps[0][1][1]:
        return False
    due = steps[0][:2]
    for index, (position, claims, answers) in enumerate(steps):
        if (position, claims) != due:
            return False
        told = [iter(list(answers[0]) + [None] * 99), iter(list(answers[1]) + [None] * 99)]
        expected, found = plain_step(game, position, claims, lambda number, later: next(told[number]))
        if [len(one) for one in expected] != [len(one) for one in answers]:
            return False
        if index == len(steps) - 1:
            return found == caught and caught != []
        if found:
            return False
        due = plain_further(game, position, claims, answers)
    return False


def plain_agree(game, position, names, books):
    """What workers of these names agree on, who tell what these dicts tell."""
    told = [(name, book.get(position), book) for name, book in zip(names, books)]
    told = [one for one in told if one[1] is not None]
    caught, records = [], []
    while True:
        pairs = [(later, earlier) for later in range(len(told)) for earlier in range(later)
                 if told[later][1] != told[earlier][1]]
        if not pairs:
            return (told[0][1] if told else None), caught, records
        later, earlier = min(pairs)
        two = (told[earlier], told[later])
        record = plain_settle(game, position, (two[0][1], two[1][1]), (two[0][2], two[1][2]))
        records.append(record)
        caught.extend([two[number][0] for number, _ in record[1]])
        told = [one for one in told if one[0] not in caught]


def plain_differ(old, new, position):
    overs = (plain_over(old, position), plain_over(new, position))
    if overs[0] is not None or overs[1] is not None:
        return overs[0] != overs[1]
    return plain_next(old, position) != plain_next(new, position)


def plain_touched(old, new, book, roots):
    hit = {position for position in plain_reachable(new, roots)
           if position not in book or plain_differ(old, new, position)}
    return [position for position in plain_reachable(new, roots) if hit & set(plain_reachable(new, [position]))]


def plain_renew(old, new, book, roots):
    fresh = plain_book(new, roots)
    hit = plain_touched(old, new, book, roots)
    renewed = {position: fresh[position] if position in hit else book[position] for position in fresh}
    changes = [(position, book[position], renewed[position]) for position in sorted(renewed)
               if position in book and book[position] != renewed[position]]
    return renewed, changes


def plain_witness(old, new, book, position):
    return plain_shortest(new, position, lambda one: one not in book or plain_differ(old, new, one))


def plain_shortest(game, position, is_wanted):
    """The least of the shortest lines to a position that is wanted, told from how far each position is from one."""
    table = {one: plain_next(game, one) for one in plain_reachable(game, [position])}
    far = {one: 0 for one in table if is_wanted(one)}
    for number in range(1, len(table)):
        far.update({one: number for one in table
                    if one not in far and any(far.get(later) == number - 1 for later in table[one])})
    if position not in far:
        return None
    line = []
    while far[position] > 0:
        nearer = [move for move in plain_moves(game, position)
                  if far.get(plain_after(position, move)) == far[position] - 1]
        line.append(min(nearer))
        position = plain_after(position, line[-1])
    return line


def plain_keeping(game, book, position):
    value = book[position]
    kept = {"won": ("lost", value[-1] - 1), "lost": ("won", value[-1] - 1)}.get(value[0], value) if value[1:] else value
    if plain_over(game, position) is not None:
        return []
    return [move for move in plain_moves(game, position) if book[plain_after(position, move)] == kept]


def plain_lines(game, position, moves):
    """All lines of so many moves."""
    if moves == 0:
        return [[]]
    if plain_over(game, position) is not None:
        return []
    return [[move] + line for move in plain_moves(game, position)
            for line in plain_lines(game, plain_after(position, move), moves - 1)]


def plain_winning_lines(game, book, position):
    """All lines of so many moves as the value tells, each of which keeps the value."""
    if book[position][0] == "drawn":
        return []
    found = []
    for line in plain_lines(game, position, book[position][1]):
        here, keeps = position, True
        for move in line:
            keeps = keeps and move in plain_keeping(game, book, here)
            here = plain_after(here, move)
        if keeps:
            found.append(line)
    return found


def plain_is_problem(game, book, position, n):
    return n >= 1 and book[position] == ("won", 2 * n - 1) and len(plain_keeping(game, book, position)) == 1


def plain_is_sound_problem(game, book, position):
    kept = plain_keeping(game, book, position)
    if not any(plain_is_problem(game, book, position, n) for n in range(1, 99)):
        return False
    return all(book[plain_after(position, move)][0] != "lost" for move in plain_moves(game, position)
               if move not in kept)


def plain_within(game, position, n):
    found = {position}
    for _ in range(n):
        found |= {later for one in found for later in plain_next(game, one)}
    return sorted(found)


def plain_workers(book, seed, lies):
    """The answers of ann, bob and cid."""
    def numbers():
        r = seed
        while True:
            r = (r * 48271 + 11) % 2147483647
            yield r

    ann, bob, cid = dict(book), dict(book), dict(book)
    ordered = sorted(book)
    for k, r in zip(range(1, lies + 1), itertools.islice(numbers(), 40)):
        worker = cid if k % 2 == 0 else ann
        value = worker[ordered[r % len(ordered)]]
        other = {"won": ("lost",) + value[1:], "lost": ("drawn",), "drawn": ("won", 1)}[value[0]]
        worker[ordered[r % len(ordered)]] = other
    return [ann, bob, cid]
