"""The examples of the document and of README.md, as far as the program goes."""

import doctest
import os
import unittest

from skewer.clauses import end, is_over
from skewer.errors import TextError
from skewer.reader import edited, read_game, read_position
from skewer.runs import after, moves, spots
from skewer.syntax import Board, Game
from skewer.writer import write_game, write_position, write_program

README = os.path.join(os.path.dirname(os.path.dirname(os.path.abspath(__file__))), "README.md")


class DocumentTest(unittest.TestCase):
    def test_reader_and_writer(self):
        text = "board 4\nway east 0 1 2 3\nway west 3 2 1 0\nkind man\n"
        text = text + "program man 0 = any(row(go east, empty))\n"
        text = text + "program man 1 = row(go west, foe, take, go west, empty)\n"
        game = read_game(text + "clause lost if lacks man\n")
        self.assertEqual(game.board.ways[1], ("west", [-1, 0, 1, 2]))
        self.assertEqual(game.programs[0][0], ("any", ("row", [("go", 0), ("empty",)])))
        self.assertEqual(game.clauses, [(("lacks", 0), "lost")])
        self.assertEqual(write_game(game), text + "clause lost if lacks man\n")
        self.assertEqual(read_position(game, "turn 0 man0 . man1 ."), (0, (1, 0, 2, 0)))
        self.assertEqual(write_position(game, (1, (0, 1, 2, 0))), "turn 1 . man0 man1 .")
        self.assertEqual(edited(game, "drop clause 0").clauses, [])
        self.assertEqual(edited(game, "way east 3 0").board.ways[0], ("east", [1, 2, 3, 0]))
        self.assertEqual(write_program(game, ("either", [])), "either()")
        with self.assertRaises(TextError):
            edited(game, "drop clause 1")

    def test_position_of_point_eleven(self):
        board = Board(4, [("east", [-1] * 4)])
        game = Game(board, ["man", "king"], [], [(("rest",), ("rest",))] * 2)
        self.assertEqual(read_position(game, "turn 0 . man0 . king1"), (0, (0, 1, 0, 4)))

    def test_runs_and_clauses(self):
        board = Board(4, [("east", [1, 2, 3, -1]), ("west", [-1, 0, 1, 2])])
        ride = ("any", ("row", [("go", 0), ("empty",)]))
        hop = ("row", [("go", 1), ("foe",), ("take",), ("go", 1), ("empty",)])
        game = Game(board, ["man"], [(("lacks", 0), "lost")], [(ride, hop)])
        expected = [(0, (0, 0, 2, 0), 0), (1, (0, 0, 2, 0), 0)]
        self.assertEqual(spots(game, 0, ride, (0, (0, 0, 2, 0), 0)), expected)
        self.assertEqual(moves(game, (0, (1, 0, 2, 0))), [(0, 1, (), 0)])
        self.assertEqual(after(game, (0, (1, 0, 2, 0)), (0, 1, (), 0)), (1, (0, 1, 2, 0)))
        self.assertEqual(moves(game, (1, (0, 1, 2, 0))), [(2, 0, (1,), 0)])
        self.assertEqual(end(game, (0, (2, 0, 0, 0))), "lost")
        self.assertIs(is_over(game, (1, (0, 1, 2, 0))), False)


class ReadmeTest(unittest.TestCase):
    def test_examples(self):
        failed, tried = doctest.testfile(README, module_relative=False)
        self.assertEqual(failed, 0)
        self.assertGreater(tried, 0)


if __name__ == "__main__":
    unittest.main()
