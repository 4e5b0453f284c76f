"""Promise 18: conditions, the ends of positions, and when a position is over."""

import copy
import unittest

from skewer.clauses import end, holds, is_over
from skewer.runs import moves
from skewer.syntax import Board, Game
from tests.games import board_of, game_of
from tests.made import Maker, made_games
from tests.plain import plain_holds, plain_moves

YES = ("few", 24)
NO = ("not", YES)


def step_game(clauses):
    """A game with two kinds whose men of side 0 go east, and those of side 1 west, to an empty field."""
    programs = [(("row", [("go", 0), ("empty",)]), ("row", [("go", 1), ("empty",)]))] * 2
    return game_of(board=board_of(), clauses=clauses, programs=programs)


class HoldsTest(unittest.TestCase):
    def check(self, condition, position, expected):
        with self.subTest(condition=condition, position=position):
            self.assertIs(holds(step_game([]), position, condition), expected)

    def test_lacks(self):
        for men, first, second in (((1, 0, 4, 0), False, True), ((2, 0, 3, 0), True, False), ((0,) * 4, True, True)):
            self.check(("lacks", 0), (0, men), first)
            self.check(("lacks", 0), (1, men), second)
        self.check(("lacks", 1), (0, (1, 4, 2, 0)), True)
        self.check(("lacks", 1), (0, (1, 4, 2, 3)), False)
        self.check(("lacks", 1), (1, (1, 4, 2, 3)), False)
        self.check(("lacks", 1), (1, (1, 3, 2, 3)), True)

    def test_foelacks(self):
        for men, first, second in (((1, 0, 4, 0), False, True), ((2, 0, 3, 0), True, False), ((0,) * 4, True, True)):
            self.check(("foelacks", 0), (1, men), first)
            self.check(("foelacks", 0), (0, men), second)
        self.check(("foelacks", 1), (0, (1, 4, 2, 0)), False)
        self.check(("foelacks", 1), (1, (1, 4, 2, 0)), True)

    def test_holds(self):
        men = (1, 4, 0, 3)
        for fields, expected in (([0], True), ([1], False), ([2], False), ([1, 2, 3], False), ([0, 3], True)):
            self.check(("holds", 0, fields), (0, men), expected)
            self.check(("foeholds", 0, fields), (1, men), expected)
        for fields, expected in (([0], False), ([1], True), ([0, 2, 3], False), ([0, 1, 2, 3], True)):
            self.check(("holds", 1, fields), (1, men), expected)
            self.check(("foeholds", 1, fields), (0, men), expected)
        self.check(("holds", 1, [3]), (0, men), True)
        self.check(("holds", 1, [3]), (1, men), False)
        self.check(("foeholds", 1, [3]), (1, men), True)
        self.check(("foeholds", 0, [0, 1, 2, 3]), (0, men), False)

    def test_stuck(self):
        self.check(("stuck",), (0, (1, 0, 0, 2)), False)
        self.check(("stuck",), (1, (1, 0, 0, 2)), False)
        self.check(("stuck",), (0, (1, 2, 0, 0)), True)
        self.check(("stuck",), (0, (0, 0, 0, 1)), True)
        self.check(("stuck",), (1, (0, 0, 0, 1)), True)
        self.check(("stuck",), (0, (0, 0, 0, 0)), True)

    def test_few(self):
        for men, number in (((0,) * 4, 0), ((1, 0, 0, 0), 1), ((0, 2, 0, 3), 2), ((1, 2, 3, 4), 4)):
            for turn in (0, 1):
                for n in (0, 1, 2, 3, 4, 5, 999999):
                    self.check(("few", n), (turn, men), number <= n)

    def test_not_and_or(self):
        position = (0, (1, 0, 2, 0))
        for condition, expected in ((YES, True), (NO, False), (("not", NO), True), (("not", ("not", YES)), True)):
            self.check(condition, position, expected)
        for first in (True, False):
            for second in (True, False):
                pair = (YES if first else NO, YES if second else NO)
                self.check(("and", *pair), position, first and second)
                self.check(("or", *pair), position, first or second)
                self.check(("not", ("and", *pair)), position, not (first and second))
                self.check(("or", ("not", pair[0]), pair[1]), position, not first or second)

    def test_nested_conditions_are_for_the_same_side(self):
        condition = ("not", ("or", ("lacks", 0), ("and", ("foelacks", 1), ("not", ("stuck",)))))
        self.check(condition, (0, (1, 4, 0, 0)), True)
        self.check(condition, (1, (1, 4, 0, 0)), False)
        self.check(condition, (1, (2, 0, 3, 0)), True)

    def test_deepest(self):
        condition = ("few", 1)
        for _ in range(7):
            condition = ("not", condition)
        self.check(condition, (0, (1, 0, 0, 0)), False)
        self.check(condition, (0, (1, 1, 0, 0)), True)

    def test_made_games(self):
        maker = Maker(8)
        found = []
        for game in made_games(14, 300):
            for _ in range(4):
                position = maker.position(game)
                condition = maker.condition(game.board.size, len(game.kinds), 4)
                found.append(holds(game, position, condition))
                self.assertIs(found[-1], plain_holds(game, position, condition))
        self.assertGreater(min(found.count(True), found.count(False)), 300)


class EndTest(unittest.TestCase):
    def test_no_clauses(self):
        self.assertIsNone(end(step_game([]), (0, (1, 0, 0, 2))))
        self.assertIsNone(end(step_game([]), (0, (0, 0, 0, 0))))

    def test_no_clause_that_holds(self):
        self.assertIsNone(end(step_game([(NO, "won"), (("few", 1), "lost")]), (0, (1, 0, 0, 2))))

    def test_each_result(self):
        for result in ("won", "lost", "drawn"):
            self.assertEqual(end(step_game([(YES, result)]), (0, (1, 0, 0, 2))), result)

    def test_first_clause_that_holds(self):
        clauses = [(("lacks", 0), "lost"), (("foelacks", 0), "won"), (("few", 3), "drawn"), (YES, "lost")]
        game = step_game(clauses)
        self.assertEqual(end(game, (0, (0, 0, 0, 2))), "lost")
        self.assertEqual(end(game, (0, (0, 0, 0, 0))), "lost")
        self.assertEqual(end(game, (0, (1, 0, 0, 0))), "won")
        self.assertEqual(end(game, (0, (1, 0, 0, 2))), "drawn")
        self.assertEqual(end(game, (0, (1, 1, 2, 2))), "lost")

    def test_for_the_side_to_move(self):
        game = step_game([(("lacks", 0), "lost"), (("foelacks", 0), "won")])
        self.assertEqual(end(game, (0, (1, 0, 0, 0))), "won")
        self.assertEqual(end(game, (1, (1, 0, 0, 0))), "lost")
        self.assertIsNone(end(game, (1, (1, 0, 0, 2))))

    def test_no_move_alone_is_no_end(self):
        self.assertIsNone(end(step_game([]), (0, (0, 0, 0, 1))))
        self.assertEqual(end(step_game([(("stuck",), "drawn")]), (0, (0, 0, 0, 1))), "drawn")


class IsOverTest(unittest.TestCase):
    def check(self, clauses, position, expected):
        self.assertIs(is_over(step_game(clauses), position), expected)

    def test_with_a_clause(self):
        for result in ("won", "lost", "drawn"):
            self.check([(YES, result)], (0, (1, 0, 0, 2)), True)
        self.check([(NO, "won"), (("few", 2), "drawn")], (1, (1, 0, 0, 2)), True)

    def test_with_no_move(self):
        self.check([], (0, (1, 2, 0, 0)), True)
        self.check([], (1, (0, 0, 0, 1)), True)
        self.check([(NO, "won")], (0, (0, 0, 0, 0)), True)

    def test_with_both(self):
        self.check([(("stuck",), "won")], (0, (1, 2, 0, 0)), True)

    def test_with_neither(self):
        self.check([], (0, (1, 0, 0, 2)), False)
        self.check([(NO, "won"), (("few", 1), "lost")], (1, (1, 0, 0, 2)), False)

    def test_made_games(self):
        maker = Maker(9)
        found = []
        for game in made_games(15, 200):
            for _ in range(3):
                position = maker.position(game)
                results = [result for condition, result in game.clauses if plain_holds(game, position, condition)]
                self.assertEqual(end(game, position), (results + [None])[0])
                found.append(is_over(game, position))
                self.assertIs(found[-1], results != [] or plain_moves(game, position) == [])
        self.assertGreater(min(found.count(True), found.count(False)), 50)


class ExampleTest(unittest.TestCase):
    def test_lines_of_the_document(self):
        board = Board(4, [("east", [1, 2, 3, -1]), ("west", [-1, 0, 1, 2])])
        ride = ("any", ("row", [("go", 0), ("empty",)]))
        hop = ("row", [("go", 1), ("foe",), ("take",), ("go", 1), ("empty",)])
        game = Game(board, ["man"], [(("lacks", 0), "lost")], [(ride, hop)])
        self.assertEqual(moves(game, (0, (1, 0, 2, 0))), [(0, 1, (), 0)])
        self.assertEqual(end(game, (0, (2, 0, 0, 0))), "lost")
        self.assertIs(is_over(game, (1, (0, 1, 2, 0))), False)


class NothingIsModifiedTest(unittest.TestCase):
    def test_calls(self):
        game = game_of()
        before = copy.deepcopy((game.board.ways, game.kinds, game.clauses, game.programs))
        condition = ("and", ("holds", 0, [0, 3]), ("not", ("foeholds", 1, [1, 2])))
        kept = copy.deepcopy(condition)
        position = (0, (1, 0, 2, 0))
        holds(game, position, condition)
        end(game, position)
        is_over(game, position)
        self.assertEqual((game.board.ways, game.kinds, game.clauses, game.programs), before)
        self.assertEqual((condition, position), (kept, (0, (1, 0, 2, 0))))


if __name__ == "__main__":
    unittest.main()
