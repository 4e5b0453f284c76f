"""The desk: lines are obeyed or refused, and answered."""

from skewer.book import solve
from skewer.edits import renewal
from skewer.errors import InvalidLine, TextError, TooLarge
from skewer.lexer import DIGITS, MOST_DIGITS
from skewer.lines import best_line
from skewer.reader import edited, game_with, read_game, read_position
from skewer.referee import agree
from skewer.report import changes_report, move_word, three_workers, value_words
from skewer.runs import after, moves
from skewer.writer import write_game

MOST_CHARACTERS = 200
MOST_LINES = 100
MOST_ROOTS = 8

# How many words a line has at least, with its first one; a line for which one word is enough has no more.
LEAST_WORDS = {"drop": 1, "load": 1, "root": 2, "solve": 1, "value": 2, "moves": 2, "game": 1, "agree": 4}


class Kept:
    """What a desk keeps besides the lines that it has obeyed."""

    def __init__(self):
        self.draft = []
        self.game = None
        self.roots = []
        self.book = None


class Desk:
    """Obeys lines, and answers each with a list of lines."""

    def __init__(self):
        self._kept = Kept()
        self._lines = []

    def obey(self, line):
        """Returns the answer to the line, a list of lines."""
        if not is_for_a_desk(line):
            raise InvalidLine(line)
        reason, answer = answer_to(self._kept, line)
        if reason is not None:
            return [f"refused {reason}"]
        self._lines.append(line)
        return answer

    def lines(self):
        """Returns the list of the lines that were obeyed."""
        return list(self._lines)

    def game(self):
        """Returns a copy of the game, or None if no game is loaded."""
        game = self._kept.game
        return None if game is None else game_with(game, game.board.ways, game.clauses, game.programs)

    def book(self):
        """Returns a copy of the book, or None if there is none."""
        book = self._kept.book
        return None if book is None else {position: book[position] for position in book}

    def roots(self):
        """Returns the list of the roots."""
        return list(self._kept.roots)


def answers_of(lines):
    """Returns the list of the answers of a new desk to these lines."""
    desk = Desk()
    return [desk.obey(line) for line in lines]


def is_for_a_desk(line):
    return len(line) <= MOST_CHARACTERS and all([" " <= letter <= "~" for letter in line])


# What follows returns pairs of a reason and an answer, or what else is asked for: the reason is None where nothing is
# refused, otherwise it is the first one that applies, and nothing has been changed.


def answer_to(kept, line):
    """Returns the pair of a reason and the answer to the line."""
    reason = reason_of_words(line.split(" "))
    if reason is not None:
        return (reason, [])
    first, _, rest = line.partition(" ")
    command = COMMANDS[first]
    return command(kept, rest)


def reason_of_words(words):
    """Returns the reason for which a line of these words is refused, whatever the desk keeps, or None."""
    first = words[0]
    if first not in COMMANDS:
        return "word"
    if first not in LEAST_WORDS:
        return None
    if "" in words:
        return "word"
    least = LEAST_WORDS[first]
    return "count" if len(words) < least or (least == 1 and len(words) > 1) else None


def add_text(kept, rest):
    if len(kept.draft) >= MOST_LINES:
        return ("full", [])
    kept.draft.append(rest)
    return (None, [f"lines {len(kept.draft)}"])


def drop_draft(kept, _):
    kept.draft = []
    return (None, ["dropped"])


def load_game(kept, _):
    try:
        game = read_game("".join([line + "\n" for line in kept.draft]))
    except TextError as error:
        return (f"text {error.line} {error.column} {error.reason}", [])
    except TooLarge:
        return ("large", [])
    kept.draft = []
    kept.game = game
    kept.roots = []
    kept.book = None
    return (None, [f"loaded {game.board.size} {len(game.kinds)}"])


def position_of(kept, text):
    """Returns the pair of a reason and the position that is written in a line."""
    if kept.game is None:
        return ("none", None)
    try:
        return (None, read_position(kept.game, text))
    except TextError as error:
        return (f"position {error.column} {error.reason}", None)


def position_in_book(kept, text):
    """Returns the pair of a reason and the position that is written in a line and has a value in the book."""
    reason, position = position_of(kept, text)
    if reason is None and (kept.book is None or position not in kept.book):
        return ("book", None)
    return (reason, position)


def add_root(kept, rest):
    reason, position = position_of(kept, rest)
    if reason is not None:
        return (reason, [])
    if position in kept.roots:
        return ("twice", [])
    if len(kept.roots) >= MOST_ROOTS:
        return ("full", [])
    kept.roots.append(position)
    kept.book = None
    return (None, [f"roots {len(kept.roots)}"])


def solve_roots(kept, _):
    if kept.game is None:
        return ("none", [])
    try:
        kept.book = solve(kept.game, kept.roots)
    except TooLarge:
        return ("large", [])
    return (None, [f"solved {len(kept.book)}"])


def tell_value(kept, rest):
    reason, position = position_in_book(kept, rest)
    if reason is not None:
        return (reason, [])
    words = [value_words(kept.book[position])]
    for move in best_line(kept.game, kept.book, position):
        words.append(move_word(kept.game, position, move))
        position = after(kept.game, position, move)
    return (None, [" ".join(words)])


def tell_moves(kept, rest):
    reason, position = position_of(kept, rest)
    if reason is not None:
        return (reason, [])
    return (None, [move_word(kept.game, position, move) for move in moves(kept.game, position)])


def edit_game(kept, rest):
    if kept.game is None:
        return ("none", [])
    try:
        new = edited(kept.game, rest)
    except TextError as error:
        return (f"text {error.line} {error.column} {error.reason}", [])
    if kept.book is None:
        kept.game = new
        return (None, ["edited"])
    try:
        many, book, changes = renewal(kept.game, new, kept.book, kept.roots)
    except TooLarge:
        return ("large", [])
    kept.game = new
    kept.book = book
    return (None, [f"edited {many}"] + changes_report(new, changes))


def tell_game(kept, _):
    if kept.game is None:
        return ("none", [])
    return (None, write_game(kept.game).split("\n")[:-1])


def let_agree(kept, rest):
    seed, lies, text = rest.split(" ", 2)
    if kept.game is None:
        return ("none", [])
    if not is_number_word(seed) or not is_number_word(lies):
        return ("number", [])
    reason, position = position_in_book(kept, text)
    if reason is not None:
        return (reason, [])
    workers = three_workers(kept.book, int(seed), int(lies))
    value, caught, _ = agree(kept.game, position, workers)
    answer = [f"agreed {value_words(value)}"]
    return (None, answer + [" ".join(["caught"] + caught)] if caught else answer)


def is_number_word(word):
    """Returns True if the word is a number as one is written in the text of a game."""
    if not all([letter in DIGITS for letter in word]) or len(word) > MOST_DIGITS:
        return False
    return word == "0" or word[0] != "0"


COMMANDS = {
    "text": add_text, "drop": drop_draft, "load": load_game, "root": add_root, "solve": solve_roots,
    "value": tell_value, "moves": tell_moves, "edit": edit_game, "game": tell_game, "agree": let_agree,
}
