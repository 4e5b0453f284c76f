"""Moves, values and changes as they are written, and the three workers of a desk."""

from skewer.runs import kind_of
from skewer.workers import Worker
from skewer.writer import write_position

MOST_LIES = 40


def move_word(game, position, move):
    """Returns the written form of a move in the position."""
    start, end, taken, kind = move
    word = f"{start}-{end}" + "".join([f"x{field}" for field in taken])
    return word if kind == kind_of(position[1][start]) else f"{word}={game.kinds[kind]}"


def value_words(value):
    """Returns the written form of the value."""
    return " ".join([str(part) for part in value])


def changes_report(game, changes):
    """Returns the list of the lines of changes."""
    return [
        f"{write_position(game, position)} was {value_words(old)} is {value_words(new)}"
        for position, old, new in changes
    ]


def three_workers(book, seed, lies):
    """Returns the list of the workers ann, bob and cid, whose answers are those of the book but for some lies."""
    positions = sorted(book)
    answers = {name: {position: book[position] for position in positions} for name in ("ann", "bob", "cid")}
    number = seed
    # Without a position, there is none of which one could lie.
    last = min(lies, MOST_LIES) if positions else 0
    for k in range(1, last + 1):
        number = (number * 48271 + 11) % 2147483647
        position = positions[number % len(positions)]
        told = answers["ann" if k % 2 == 1 else "cid"]
        told[position] = lie_for(told[position])
    return [Worker(name, answers[name]) for name in answers]


def lie_for(value):
    """Returns the other answer that takes the place of a value."""
    if value[0] == "won":
        return ("lost", value[1])
    return ("drawn",) if value[0] == "lost" else ("won", 1)
