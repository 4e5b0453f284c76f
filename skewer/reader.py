"""Games, positions and edits, read from their texts."""

from skewer.cursor import Cursor
from skewer.errors import TextError, TooLarge
from skewer.forms import read_clause, read_program, read_row_of_way
from skewer.runs import man_of
from skewer.syntax import MOST_CLAUSES, MOST_FIELDS, MOST_KINDS, MOST_WAYS, Board, Game

MOST_CHARACTERS = 20000


def read_game(text):
    """Returns the game with this text."""
    if len(text) > MOST_CHARACTERS:
        raise TooLarge("text")
    lines = lines_of(text)
    draft = Draft()
    for number, line in enumerate(lines, start=1):
        cursor = Cursor(line, number)
        if not cursor.is_done():
            draft.read_line(cursor)
    if not draft.is_whole():
        raise TextError(len(lines) + 1, 1, "end")
    return draft.game()


def lines_of(text):
    lines = text.split("\n")
    return lines[:-1] if lines[-1] == "" else lines


class Draft:
    """What has been read of the text of a game; the programs stand in one list, in the order of their lines."""

    def __init__(self):
        self.size = None
        self.ways = []
        self.kinds = []
        self.programs = []
        self.clauses = []

    def is_whole(self):
        """Returns True if no further line is due."""
        return self.kinds != [] and len(self.programs) == 2 * len(self.kinds)

    def game(self):
        pairs = [(self.programs[2 * kind], self.programs[2 * kind + 1]) for kind in range(len(self.kinds))]
        return Game(Board(self.size, self.ways), self.kinds, self.clauses, pairs)

    def first_words(self):
        """Returns the words with which a line can begin here."""
        if self.size is None:
            return ["board"]
        if not self.ways:
            return ["way"]
        if not self.kinds:
            return ["way", "kind"] if len(self.ways) < MOST_WAYS else ["kind"]
        if not self.programs:
            return ["kind", "program"] if len(self.kinds) < MOST_KINDS else ["program"]
        if not self.is_whole():
            return ["program"]
        return ["clause"] if len(self.clauses) < MOST_CLAUSES else []

    def read_line(self, cursor):
        word = cursor.text()
        if word not in self.first_words():
            cursor.refuse("line")
        cursor.pass_token()
        if word == "board":
            self.size = cursor.pass_number(1, MOST_FIELDS)
        elif word == "way":
            name = cursor.pass_new(names_of(self.ways))
            self.ways.append((name, read_row_of_way(cursor, self.size)))
        elif word == "kind":
            self.kinds.append(cursor.pass_new(self.kinds))
        elif word == "program":
            self.read_program_in_turn(cursor)
        else:
            self.clauses.append(read_clause(cursor, self.size, self.kinds))
        cursor.pass_end()

    def read_program_in_turn(self, cursor):
        kind = len(self.programs) // 2
        side = len(self.programs) % 2
        cursor.pass_known([self.kinds[kind]])
        cursor.pass_number(side, side)
        cursor.pass_text("=")
        self.programs.append(read_program(cursor, names_of(self.ways), self.kinds))


def names_of(ways):
    return [name for name, _ in ways]


def read_position(game, text):
    """Returns the position of the game that is written as this line."""
    words = text.split(" ")
    due = 2 + game.board.size
    column = 1
    for number, word in enumerate(words):
        if number >= due:
            raise TextError(1, column, "count")
        if not is_word_of_position(game, number, word):
            raise TextError(1, column, "word")
        column += len(word) + 1
    if len(words) < due:
        raise TextError(1, len(text) + 1, "count")
    return (int(words[1]), tuple([man_of_word(game, word) for word in words[2:]]))


def is_word_of_position(game, number, word):
    """Returns True if the word can be the one with this number, from 0, of a position."""
    if number == 0:
        return word == "turn"
    if number == 1:
        return word in ("0", "1")
    # A word can be empty, and so can the name of a kind of a game that is not let by.
    return word == "." or (word[:-1] in game.kinds and word[-1:] in ("0", "1"))


def man_of_word(game, word):
    return 0 if word == "." else man_of(int(word[-1]), game.kinds.index(word[:-1]))


def edited(game, text):
    """Returns the game that the edit makes of a game."""
    cursor = Cursor(text, 1)
    if cursor.is_done():
        raise TextError(1, 1, "line")
    word = cursor.text()
    if word not in EDITS:
        cursor.refuse("line")
    cursor.pass_token()
    edit = EDITS[word]
    return edit(game, cursor)


def edit_program(game, cursor):
    kind = cursor.pass_known(game.kinds)
    side = cursor.pass_number(0, 1)
    cursor.pass_text("=")
    program = read_program(cursor, names_of(game.board.ways), game.kinds)
    cursor.pass_end()
    first, second = game.programs[kind]
    pair = (program, second) if side == 0 else (first, program)
    return game_with(game, game.board.ways, game.clauses, replaced(game.programs, kind, [pair]))


def edit_clause(game, cursor):
    number = cursor.pass_number(0, min(len(game.clauses), MOST_CLAUSES - 1))
    clause = read_clause(cursor, game.board.size, game.kinds)
    cursor.pass_end()
    return game_with(game, game.board.ways, replaced(game.clauses, number, [clause]), game.programs)


def edit_drop(game, cursor):
    cursor.pass_text("clause")
    number = cursor.pass_number(0, len(game.clauses) - 1)
    cursor.pass_end()
    return game_with(game, game.board.ways, replaced(game.clauses, number, []), game.programs)


def edit_way(game, cursor):
    last = game.board.size - 1
    number = cursor.pass_known(names_of(game.board.ways))
    field = cursor.pass_number(0, last)
    there = -1
    if cursor.text() == "nowhere":
        cursor.pass_token()
    else:
        there = cursor.pass_number(0, last)
    cursor.pass_end()
    name, leads = game.board.ways[number]
    way = (name, replaced(leads, field, [there]))
    return game_with(game, replaced(game.board.ways, number, [way]), game.clauses, game.programs)


EDITS = {"program": edit_program, "clause": edit_clause, "drop": edit_drop, "way": edit_way}


def game_with(game, ways, clauses, programs):
    """Returns a new game, with a board of its own, that has these parts and otherwise those of the game."""
    return Game(Board(game.board.size, ways), game.kinds, clauses, programs)


def replaced(rows, number, others):
    """Returns a new list with others in the place of the item with this number, or behind the last one."""
    return rows[:number] + others + rows[number + 1:]
