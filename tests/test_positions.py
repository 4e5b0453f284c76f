"""Promise 11, and 3 for it: positions, written and read."""

import copy
import itertools
import unittest

from skewer.reader import read_position
from skewer.syntax import Board, Game
from skewer.writer import write_position
from tests.games import board_of, game_of
from tests.texts import error_of, unmarked


class PositionsTest(unittest.TestCase):
    def test_written_and_read(self):
        cases = [
            ((0, (0, 0, 0, 0)), "turn 0 . . . ."),
            ((1, (0, 0, 0, 0)), "turn 1 . . . ."),
            ((0, (1, 2, 3, 4)), "turn 0 man0 man1 king0 king1"),
            ((1, (4, 0, 0, 1)), "turn 1 king1 . . man0"),
            ((1, (0, 1, 2, 0)), "turn 1 . man0 man1 ."),
        ]
        for position, text in cases:
            with self.subTest(text=text):
                self.assertEqual(write_position(game_of(), position), text)
                self.assertEqual(read_position(game_of(), text), position)

    def test_forms_of_the_parts(self):
        position = read_position(game_of(), "turn 1 . man0 man1 .")
        self.assertEqual((type(position), type(position[0]), type(position[1])), (tuple, int, tuple))
        self.assertEqual({type(man) for man in position[1]}, {int})

    def test_every_position_of_a_small_board(self):
        game = game_of(board=board_of(2))
        for turn in (0, 1):
            for men in itertools.product(range(5), repeat=2):
                self.assertEqual(read_position(game, write_position(game, (turn, men))), (turn, men))

    def test_one_field_and_six_kinds(self):
        game = game_of(board=board_of(1), kinds=["a", "b", "c", "d", "e", "abcdefghijkl"])
        self.assertEqual(read_position(game, "turn 0 abcdefghijkl1"), (0, (12,)))
        self.assertEqual(write_position(game, (1, (11,))), "turn 1 abcdefghijkl0")

    def test_greatest_board(self):
        game = game_of(board=board_of(24))
        position = (1, tuple([1, 2, 3, 4, 0, 0] * 4))
        self.assertEqual(read_position(game, write_position(game, position)), position)


    def test_the_game_is_not_modified(self):
        game = game_of()
        before = copy.deepcopy((game.board.size, game.board.ways, game.kinds, game.clauses, game.programs))
        write_position(game, read_position(game, "turn 0 man0 . king1 ."))
        error_of(read_position, game, "turn 0 man0 . lamp1 .")
        self.assertEqual((game.board.size, game.board.ways, game.kinds, game.clauses, game.programs), before)


class ErrorsTest(unittest.TestCase):
    """An `@`, which is left out, stands ahead of the column of the error."""

    def check(self, marked, reason):
        text, column = unmarked(marked)
        with self.subTest(text=marked):
            self.assertEqual(error_of(read_position, game_of(), text), (1, column, reason))

    def test_first_word(self):
        for text in ("@turns 0 . . . .", "@Turn 0 . . . .", "@0 . . . .", "@move 0 . . . .", "@ turn 0 . . . .", "@."):
            self.check(text, "word")

    def test_side(self):
        for text in ("turn @2 . . . .", "turn @. . . .", "turn @00 . . . .", "turn @01 . . . .", "turn @x . . . .",
                     "turn @man0 . . . .", "turn @-1 . . . .", "turn @+1 . . . .", "turn @\u0661 . . . .",
                     "turn @turn"):
            self.check(text, "word")

    def test_men(self):
        for text in ("turn 0 @man . . .", "turn 0 . @men0 . .", "turn 0 . . @man2 .", "turn 0 . . . @man01",
                     "turn 0 @0 . . .", "turn 0 @1 . . .", "turn 0 @.. . . .", "turn 0 @man 0 . .",
                     "turn 0 @Man0 . . .",
                     "turn 0 @.0 . . .", "turn 0 man0 @king . .", "turn 0 @man0, . . .", "turn 0 @turn . . .",
                     "turn 0 @man0\t. . .", "turn 0 . . . @.\n", "turn 0 @man\u0660 . . .", "turn 0 @0man . . ."):
            self.check(text, "word")

    def test_spaces(self):
        for text in ("turn @ 0 . . . .", "turn 0 @ . . . .", "turn 0 . @ . . .", "turn 0 . . . @ .", "turn 0 . . . @",
                     "turn @", "turn 0 @"):
            self.check(text, "word")

    def test_too_few(self):
        for text in ("turn@", "turn 0@", "turn 0 .@", "turn 1 . man0@", "turn 1 . . king1@"):
            self.check(text, "count")

    def test_too_many(self):
        for text in ("turn 0 . . . . @.", "turn 0 man0 . . king1 @man1 .", "turn 0 . . . . @. . . .",
                     "turn 0 . . . . @",
                     "turn 0 . . . . @ .", "turn 0 . . . . @lamp", "turn 1 . . . king0 @turn 0"):
            self.check(text, "count")

    def test_empty_text(self):
        self.check("@", "word")

    def test_empty_word_and_empty_name(self):
        """The empty word is no man, even where a kind has the empty name."""
        game = Game(Board(1, [("east", [-1])]), [""], [], [(("rest",), ("rest",))])
        self.assertEqual(read_position(game, "turn 0 0"), (0, (1,)))
        self.assertEqual(read_position(game, "turn 0 1"), (0, (2,)))
        for text in ("turn 0 ", "turn 0 2", "turn 0 00"):
            with self.subTest(text=text):
                self.assertEqual(error_of(read_position, game, text), (1, 8, "word"))
        for text in ("turn 0 0 ", "turn 0 . 0"):
            with self.subTest(text=text):
                self.assertEqual(error_of(read_position, game, text), (1, 10, "count"))
        man = Game(Board(1, [("east", [-1])]), ["man"], [], [(("rest",), ("rest",))])
        self.assertEqual(error_of(read_position, man, "turn 0 "), (1, 8, "word"))

    def test_first_wrong_word(self):
        self.check("turn @3 lamp . . . . .", "word")
        self.check("turn 0 . @lamp", "word")
        self.check("turn 0 . . . @lamp . .", "word")
        self.check("@lamp", "word")


if __name__ == "__main__":
    unittest.main()
