"""What workers tell, right and wrong, for the tests."""

from skewer.syntax import Game
from tests.slow import plain_book


def teller(maker, game, start, right):
    """What some worker tells: what is right, something else here and there, or what is right in another game."""
    if maker.below(4) == 0:
        return right
    if maker.below(3) == 0:
        return lied(maker, right, maker.one_of((2, 4, 9, 40)))
    clause = (maker.condition(game.board.size, len(game.kinds), 2), maker.one_of(("won", "lost", "drawn")))
    other = plain_book(Game(game.board, game.kinds, [clause] + game.clauses[1:], game.programs), [start])
    return lied(maker, other, 200)


def lied(maker, book, rarity):
    """A copy of the book, in which one of so many positions has another value, or none."""
    values = [("won", maker.below(5)), ("lost", maker.below(5)), ("drawn",), ("won", 0), ("lost", 0), None, ("no",)]
    return {position: maker.one_of(values) if maker.below(rarity) == 0 else book[position] for position in sorted(book)}
