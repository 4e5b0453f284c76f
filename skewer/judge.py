"""The judge of books."""

from skewer.book import next_positions, over_value


def is_position(game, position):
    """Returns True if the tuple is a position of the game."""
    turn, men = position
    if turn not in (0, 1) or len(men) != game.board.size:
        return False
    return all([0 <= man <= 2 * len(game.kinds) for man in men])


def judge_book(game, book):
    """Returns None if the book is accepted, otherwise the least position at which it is not correct, and a reason."""
    return judge_positions(game, book, book)


def judge_positions(game, book, positions):
    """Returns the least of these positions of a book at which it is not correct, and a reason, or None."""
    for position in sorted(positions):
        reason = reason_at(game, book, position)
        if reason is not None:
            return (position, reason)
    return None


def reason_at(game, book, position):
    """Returns the reason why the book is not correct at one of its positions, or None if it is."""
    if not is_position(game, position):
        return "position"
    value = book[position]
    if not is_value(value):
        return "value"
    over = over_value(game, position)
    if over is not None:
        return None if value == over else "over"
    answers = [book.get(later) for later in next_positions(game, position)]
    if not all([answer is not None and is_value(answer) for answer in answers]):
        return "next"
    return None if value == value_behind(answers) else "wrong"


def is_value(value):
    """Returns True if the tuple is of one of the three kinds of values."""
    if value == ("drawn",):
        return True
    return len(value) == 2 and value[0] in ("won", "lost") and value[1] >= 0


def value_behind(answers):
    """Returns the value of a position that is not over, if these are the values of its next positions."""
    lost = [answer[1] for answer in answers if answer[0] == "lost"]
    if lost:
        return ("won", min(lost) + 1)
    if all([answer[0] == "won" for answer in answers]):
        return ("lost", max([answer[1] for answer in answers]) + 1)
    return ("drawn",)
