"""Promises 7 and 10: the written forms of games, programs and conditions, and that reading gives the same game."""

import copy
import itertools
import unittest

from skewer.reader import read_game
from skewer.syntax import Board, Game, is_let_by, same_game
from skewer.writer import write_condition, write_game, write_program
from tests.games import board_of, game_of
from tests.made import made_games
from tests.texts import LINES, text_of, whole_text, with_line


def way_written(leads):
    """The line of a way that leads so."""
    game = Game(Board(len(leads), [("east", leads)]), ["man"], [], [(("rest",), ("rest",))])
    return write_game(game).split("\n")[1]


def pairs_of(rows):
    return [pair for row in rows for pair in zip(row, row[1:])]


class GamesTest(unittest.TestCase):
    def test_ordinary_game(self):
        expected = [
            "board 4",
            "way east 0 1 2 3",
            "way west 3 2 1 0",
            "kind man",
            "kind king",
            "program man 0 = any(row(go east, empty))",
            "program man 1 = row(go west, foe, take, go west, either(empty, at king), lay king)",
            "program king 0 = rest",
            "program king 1 = own",
            "clause lost if or(lacks man, and(not(stuck), holds king on 0 3))",
            "clause drawn if few 2",
        ]
        self.assertEqual(write_game(game_of()), text_of(expected))

    def test_what_was_read_is_written_again(self):
        self.assertEqual(write_game(read_game(whole_text())), whole_text())
        self.assertEqual(write_game(read_game(whole_text()[:-1])), whole_text())
        self.assertEqual(write_game(read_game("\n" + whole_text().replace(" ", "  "))), whole_text())

    def test_no_clauses(self):
        self.assertEqual(write_game(read_game(text_of(LINES[:9]))), text_of(LINES[:9]))
        self.assertEqual(write_game(game_of(clauses=[])).count("clause"), 0)

    def test_twelve_clauses(self):
        results = ["won", "lost", "drawn"] * 4
        game = game_of(clauses=[(("few", n), result) for n, result in enumerate(results)])
        text = write_game(game)
        expected = [f"clause {result} if few {n}" for n, result in enumerate(results)]
        self.assertEqual(text.split("\n")[9:], expected + [""])
        self.assertIs(same_game(read_game(text), game), True)

    def test_greatest_game(self):
        ways = [("way" + letter, list(range(1, 24)) + [0]) for letter in "abcdefgh"]
        kinds = ["kind" + letter for letter in "abcdef"]
        programs = [(("at", kind), ("go", kind + 2)) for kind in range(6)]
        game = Game(Board(24, ways), kinds, [(("holds", 5, list(range(24))), "won")], programs)
        self.assertIs(same_game(read_game(write_game(game)), game), True)

    def test_made_games(self):
        for number, game in enumerate(made_games(7, 300)):
            with self.subTest(number=number):
                self.assertIs(is_let_by(game), True)
                text = write_game(game)
                self.assertIs(same_game(read_game(text), game), True)
                self.assertEqual(write_game(read_game(text)), text)

    def test_the_game_is_not_modified(self):
        game = game_of()
        before = copy.deepcopy((game.board.size, game.board.ways, game.kinds, game.clauses, game.programs))
        write_game(game)
        write_program(game, game.programs[0][1])
        write_condition(game, game.clauses[0][0])
        self.assertEqual((game.board.size, game.board.ways, game.kinds, game.clauses, game.programs), before)


class WaysTest(unittest.TestCase):
    def test_rows(self):
        cases = [
            ([-1, -1, -1], "way east"),
            ([1, 2, -1], "way east 0 1 2"),
            ([-1, 0, 1], "way east 2 1 0"),
            ([1, -1, 3, -1], "way east 0 1; 2 3"),
            ([-1, 0, -1, 2], "way east 1 0; 3 2"),
            # Round, and round with a way into it.
            ([1, 2, 0], "way east 0 1 2 0"),
            ([2, 0, 1], "way east 0 2 1 0"),
            ([0], "way east 0 0"),
            ([0, 1, -1], "way east 0 0; 1 1"),
            ([1, 0, 3, 2], "way east 0 1 0; 2 3 2"),
            ([1, 2, 1], "way east 0 1 2 1"),
            ([3, 2, 1, 2], "way east 0 3 2 1 2"),
            ([1, 1, -1, 1], "way east 0 1 1; 3 1"),
            ([-1, 2, 1, 1], "way east 3 1 2 1"),
            # Rows that meet.
            ([2, 2, 3, -1], "way east 0 2 3; 1 2"),
            ([2, 2, -1, -1], "way east 0 2; 1 2"),
            ([4, 4, 4, 4, -1], "way east 0 4; 1 4; 2 4; 3 4"),
            ([2, 3, 4, 4, 5, -1], "way east 0 2 4 5; 1 3 4"),
            # The fields to which no way leads come ahead of those of a round, though they are greater.
            ([1, 0, 0, -1], "way east 2 0 1 0"),
            ([1, 0, 3, -1], "way east 2 3; 0 1 0"),
        ]
        for leads, expected in cases:
            with self.subTest(leads=leads):
                self.assertEqual(way_written(leads), expected)

    def test_fields_of_two_digits(self):
        self.assertEqual(way_written([-1] * 9 + [10, 23] + [-1] * 13), "way east 9 10 23")

    def test_every_way_of_four_fields(self):
        for leads in itertools.product(range(-1, 4), repeat=4):
            line = way_written(list(leads))
            rows = [[int(word) for word in row.split()] for row in line[len("way east"):].split(";") if row]
            expected = [(field, there) for field, there in enumerate(leads) if there != -1]
            self.assertEqual(sorted(pairs_of(rows)), expected)
            self.assertEqual(read_game(with_line(2, line)).board.ways[0], ("east", list(leads)))
            self.check_order([row[0] for row in rows], leads)
            self.check_ends(rows, leads)

    def check_order(self, firsts, leads):
        heads = [field for field in range(4) if leads[field] != -1 and field not in leads]
        self.assertEqual(firsts[:len(heads)], heads)
        self.assertEqual(firsts[len(heads):], sorted(firsts[len(heads):]))

    def check_ends(self, rows, leads):
        onward = []
        for row in rows:
            onward.extend(row[:-1])
            self.assertTrue(leads[row[-1]] == -1 or row[-1] in onward)


class FormsTest(unittest.TestCase):
    def test_programs(self):
        cases = [
            (("go", 0), "go east"), (("go", 1), "go west"), (("empty",), "empty"), (("own",), "own"), (("foe",), "foe"),
            (("at", 0), "at man"), (("at", 1), "at king"), (("take",), "take"), (("lay", 1), "lay king"),
            (("rest",), "rest"), (("row", []), "row()"), (("either", []), "either()"),
            (("row", [("own",)]), "row(own)"), (("either", [("go", 1), ("take",)]), "either(go west, take)"),
            (("any", ("row", [])), "any(row())"),
            (("row", [("any", ("either", [("row", []), ("foe",)])), ("lay", 0)]),
             "row(any(either(row(), foe)), lay man)"),
        ]
        for program, expected in cases:
            with self.subTest(expected=expected):
                self.assertEqual(write_program(game_of(), program), expected)
                text = with_line(7, "program man 1 = " + expected)
                self.assertEqual(read_game(text).programs[0][1], program)

    def test_conditions(self):
        cases = [
            (("lacks", 0), "lacks man"), (("foelacks", 1), "foelacks king"), (("holds", 1, [0]), "holds king on 0"),
            (("holds", 0, [0, 1, 3]), "holds man on 0 1 3"), (("foeholds", 1, [2, 3]), "foeholds king on 2 3"),
            (("stuck",), "stuck"), (("few", 0), "few 0"), (("few", 999999), "few 999999"),
            (("not", ("few", 3)), "not(few 3)"), (("and", ("stuck",), ("lacks", 1)), "and(stuck, lacks king)"),
            (("or", ("not", ("stuck",)), ("and", ("few", 1), ("holds", 0, [1, 2]))),
             "or(not(stuck), and(few 1, holds man on 1 2))"),
        ]
        for condition, expected in cases:
            with self.subTest(expected=expected):
                self.assertEqual(write_condition(game_of(), condition), expected)
                text = text_of(LINES[:9]) + "clause won if " + expected
                self.assertEqual(read_game(text).clauses, [(condition, "won")])

    def test_deepest(self):
        program, condition = ("rest",), ("stuck",)
        for _ in range(7):
            program, condition = ("row", [program]), ("not", condition)
        self.assertEqual(write_program(game_of(), program), "row(" * 7 + "rest" + ")" * 7)
        self.assertEqual(write_condition(game_of(), condition), "not(" * 7 + "stuck" + ")" * 7)

    def test_names_are_those_of_the_game(self):
        game = game_of(board=board_of(2, [("up", [1, -1]), ("down", [-1, 0])]), kinds=["pawn", "imp"])
        self.assertEqual(write_program(game, ("row", [("go", 1), ("at", 1)])), "row(go down, at imp)")
        self.assertEqual(write_condition(game, ("lacks", 0)), "lacks pawn")


if __name__ == "__main__":
    unittest.main()
