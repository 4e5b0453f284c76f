"""Promises 31 to 34: next positions, positions that can be reached, and values."""

import unittest

from skewer.book import next_positions, over_value, reachable, solve
from skewer.errors import SkewerError, TooLarge
from skewer.runs import after, moves
from skewer.syntax import Board, Game
from tests.games import board_of, either, game_of, parts_of, ride, ring_of, row, step_to, walk
from tests.made import Maker, made_games, small_rings
from tests.slow import plain_book, plain_next, plain_reachable


def duel(size=4, clauses=None):
    """On a row of fields, men of side 0 step east and those of side 1 west, and take each other."""
    return game_of(board=board_of(size), kinds=["man"], clauses=clauses or [], programs=[(walk(0), walk(1))])


class NextTest(unittest.TestCase):
    def test_several_moves(self):
        game = duel()
        self.assertEqual(next_positions(game, (0, (1, 0, 1, 2))), [(1, (0, 1, 1, 2)), (1, (1, 0, 0, 1))])

    def test_ascending_though_the_moves_do_not_lead_so(self):
        game = game_of(board=board_of(4), kinds=["man"], clauses=[], programs=[(ride(), ("rest",))])
        position = (0, (1, 0, 0, 0))
        self.assertEqual([after(game, position, move) for move in moves(game, position)][0], (1, (0, 1, 0, 0)))
        self.assertEqual(next_positions(game, position), [(1, (0, 0, 0, 1)), (1, (0, 0, 1, 0)), (1, (0, 1, 0, 0))])

    def test_several_moves_to_one_position(self):
        # Each man can take the other one, and stay there or go back.
        game = Game(Board(2, [("on", [1, 0])]), ["man"], [],
                    [(either(row(("go", 0), ("take",)), row(("go", 0), ("take",), ("go", 0))), ("rest",))])
        position = (0, (1, 1))
        self.assertEqual(moves(game, position), [(0, 0, (1,), 0), (0, 1, (1,), 0), (1, 0, (0,), 0), (1, 1, (0,), 0)])
        self.assertEqual(next_positions(game, position), [(1, (0, 1)), (1, (1, 0))])

    def test_over_by_a_clause(self):
        for result in ("won", "lost", "drawn"):
            game = duel(clauses=[(("few", 2), result)])
            self.assertNotEqual(moves(game, (0, (1, 0, 0, 2))), [])
            self.assertEqual(next_positions(game, (0, (1, 0, 0, 2))), [])
        self.assertEqual(next_positions(game, (0, (1, 2, 0, 2))), [(1, (0, 1, 0, 2))])

    def test_over_without_a_move(self):
        self.assertEqual(next_positions(duel(), (0, (0, 0, 0, 1))), [])
        self.assertEqual(next_positions(duel(), (1, (1, 1, 0, 0))), [])

    def test_made_games(self):
        maker = Maker(41)
        for game in made_games(41, 200):
            position = maker.position(game)
            self.assertEqual(next_positions(game, position), plain_next(game, position))


class ReachableTest(unittest.TestCase):
    def test_none(self):
        self.assertEqual(reachable(duel(), []), [])

    def test_one(self):
        self.assertEqual(reachable(duel(3), [(0, (1, 0, 2))]), [(0, (0, 2, 0)), (0, (1, 0, 2)), (1, (0, 1, 2))])

    def test_a_position_that_is_over(self):
        game = duel(clauses=[(("few", 2), "drawn")])
        self.assertEqual(reachable(game, [(0, (1, 0, 0, 2))]), [(0, (1, 0, 0, 2))])

    def test_several_ascending_and_each_once(self):
        game = duel(3)
        roots = [(1, (0, 1, 2)), (0, (1, 0, 2)), (1, (0, 1, 2)), (1, (0, 0, 2))]
        expected = [(0, (0, 2, 0)), (0, (1, 0, 2)), (1, (0, 0, 2)), (1, (0, 1, 2))]
        self.assertEqual(reachable(game, roots), expected)
        self.assertEqual(reachable(game, roots[::-1]), expected)

    def test_rounds(self):
        game = ring_of(4, [(step_to(0), step_to(0))])
        found = reachable(game, [(0, (1, 0, 2, 0))])
        self.assertEqual(found, sorted(found))
        self.assertEqual(len(found), 8)

    def test_made_games(self):
        maker = Maker(42)
        for game in made_games(42, 150):
            roots = [maker.position(game) for _ in range(maker.below(3))]
            self.assertEqual(reachable(game, roots), plain_reachable(game, roots))

    def check_too_large(self, game, roots):
        for call in (reachable, solve):
            with self.assertRaises(TooLarge) as caught:
                call(game, roots)
            self.assertEqual(caught.exception.limit, "positions")
            self.assertIsInstance(caught.exception, SkewerError)

    def test_20000_and_more(self):
        """The first root leads to one position more, the others are over."""
        board = Board(16, [("on", [1] + [-1] * 15)])
        game = Game(board, ["man"], [], [(("go", 0), ("rest",))])
        roots = [(0, (1,) + (0,) * 15)]
        roots += [(0, tuple([2 * int(digit) for digit in f"{number:016b}"])) for number in range(20000)]
        self.assertEqual(len(reachable(game, roots[:19999] * 2)), 20000)
        self.assertEqual(len(reachable(game, roots[1:])), 20000)
        self.assertEqual(len(solve(game, roots[:19999])), 20000)
        self.check_too_large(game, roots[:20000])
        self.check_too_large(game, roots)

    def test_more_than_20000_behind_one(self):
        game = ring_of(24, [(walk(0, 1), walk(0, 1))])
        self.check_too_large(game, [(0, (1, 0, 0, 0, 1, 0, 2, 0) + (0,) * 12 + (2, 0, 0, 0))])


class OverValueTest(unittest.TestCase):
    def test_each_result(self):
        for result, expected in (("won", ("won", 0)), ("lost", ("lost", 0)), ("drawn", ("drawn",))):
            game = duel(clauses=[(("few", 2), result)])
            for position in ((0, (1, 0, 0, 2)), (1, (1, 0, 0, 2)), (0, (0, 0, 0, 0)), (1, (0, 0, 0, 1))):
                self.assertEqual(over_value(game, position), expected)

    def test_no_move(self):
        self.assertEqual(over_value(duel(), (0, (0, 0, 0, 1))), ("lost", 0))
        self.assertEqual(over_value(duel(), (1, (0, 0, 0, 0))), ("lost", 0))

    def test_the_clause_comes_before_the_missing_move(self):
        game = duel(clauses=[(("stuck",), "won")])
        self.assertEqual(over_value(game, (0, (0, 0, 0, 1))), ("won", 0))
        game = duel(clauses=[(("lacks", 0), "drawn"), (("stuck",), "won")])
        self.assertEqual(over_value(game, (0, (0, 0, 0, 2))), ("drawn",))

    def test_not_over(self):
        self.assertIsNone(over_value(duel(), (0, (1, 0, 0, 2))))
        self.assertIsNone(over_value(duel(clauses=[(("few", 1), "lost")]), (0, (1, 0, 0, 2))))


class SolveTest(unittest.TestCase):
    def test_no_positions(self):
        self.assertEqual(solve(duel(), []), {})

    def test_duel(self):
        self.assertEqual(solve(duel(3), [(0, (1, 0, 2))]),
                         {(0, (1, 0, 2)): ("lost", 2), (1, (0, 1, 2)): ("won", 1), (0, (0, 2, 0)): ("lost", 0)})
        self.assertEqual(solve(duel(2), [(0, (1, 2)), (1, (1, 2))]),
                         {(0, (1, 2)): ("won", 1), (1, (0, 1)): ("lost", 0), (1, (1, 2)): ("won", 1),
                          (0, (2, 0)): ("lost", 0)})

    def test_values_by_clauses(self):
        for result, before, last in (("won", ("lost", 1), ("won", 0)), ("lost", ("won", 1), ("lost", 0)),
                                     ("drawn", ("drawn",), ("drawn",))):
            game = duel(3, [(("few", 1), result)])
            self.assertEqual(solve(game, [(1, (0, 1, 2))]), {(1, (0, 1, 2)): before, (0, (0, 2, 0)): last})
            self.assertEqual(solve(game, [(0, (0, 2, 0))]), {(0, (0, 2, 0)): last})

    def test_lost_only_if_all_next_positions_are_won(self):
        """A man goes on to a field at which the other side has won, or to one at which it is drawn."""
        board = Board(4, [("a", [1, -1, -1, -1]), ("b", [2, -1, -1, -1])])
        clauses = [(("foeholds", 0, [1]), "won"), (("foeholds", 0, [2]), "drawn")]
        for program, value in ((("go", 0), ("lost", 1)), (("go", 1), ("drawn",)),
                               (either(("go", 0), ("go", 1)), ("drawn",))):
            game = Game(board, ["man"], clauses, [(program, ("rest",))])
            self.assertEqual(solve(game, [(0, (1, 0, 0, 2))])[(0, (1, 0, 0, 2))], value)

    def test_several_moves_until_the_end(self):
        """Men without a foe step on, until one of the two has no move."""
        game = game_of(board=Board(8, [("on", [1, 2, 3, -1, 5, 6, 7, -1])]), kinds=["man"], clauses=[],
                       programs=[(step_to(0), step_to(0))])
        for first in range(4):
            for second in range(4):
                men = [0] * 8
                men[first], men[4 + second] = 1, 2
                left, others = 3 - first, 3 - second
                # The side to move has lost if it has no more steps than the other one.
                expected = ("won", 2 * others + 1) if left > others else ("lost", 2 * left)
                self.assertEqual(solve(game, [(0, tuple(men))])[(0, tuple(men))], expected)

    def test_the_soonest_win_and_the_latest_loss(self):
        """The man of side 0 goes one of two ways; side 1 loses at the end of each, and has no choice."""
        board = Board(8, [("a", [1, 5, 3, 4, 5, -1, 7, 6]), ("b", [2, -1, -1, -1, -1, -1, -1, -1])])
        for result, value in (("lost", ("won", 3)), ("won", ("lost", 7))):
            game = Game(board, ["man"], [(("foeholds", 0, [5]), result)], [(either(("go", 0), ("go", 1)), ("go", 0))])
            start = (0, (1, 0, 0, 0, 0, 0, 2, 0))
            self.assertEqual(solve(game, [start])[start], value)

    def test_play_for_ever(self):
        game = ring_of(6, [(step_to(0), step_to(0))])
        book = solve(game, [(0, (1, 0, 0, 2, 0, 0))])
        self.assertGreater(len(book), 10)
        self.assertEqual(set(book.values()), {("drawn",)})

    def test_play_for_ever_beside_a_loss(self):
        """Whoever has a move that leads to no loss takes it, for ever."""
        game = ring_of(7, [(walk(0, 1), walk(0, 1))])
        start = (0, (1, 0, 0, 2, 0, 0, 0))
        book = solve(game, [start])
        self.assertEqual(book, plain_book(game, [start]))
        self.assertEqual(book[start], ("drawn",))
        self.assertEqual(book[(1, (0, 1, 0, 2, 0, 0, 0))], ("drawn",))
        self.assertEqual(set(book.values()), {("drawn",), ("won", 1), ("lost", 0)})

    def test_wins_and_losses_of_several_moves(self):
        """Two men hunt one."""
        for size, number in ((6, 3), (7, 5), (8, 7)):
            game = ring_of(size, [(walk(0, 1), walk(0, 1))])
            start = (0, (1, 1, 0, 2) + (0,) * (size - 4))
            book = solve(game, [start])
            self.assertEqual(book, plain_book(game, [start]))
            self.assertEqual(book[start], ("won", number))
            self.assertIn(("drawn",), book.values())
            self.assertIn(("lost", 2 * ((number + 1) // 2)), book.values())

    def test_made_games(self):
        maker = Maker(43)
        told = {}
        for game in made_games(43, 250) + small_rings(maker, 250):
            roots = [maker.position(game) for _ in range(1 + maker.below(2))]
            book = solve(game, roots)
            self.assertEqual(book, plain_book(game, roots))
            self.assertEqual(sorted(book), reachable(game, roots))
            for value in book.values():
                told[value] = told.get(value, 0) + 1
        for value in [("drawn",)] + [(word, n) for word in ("won", "lost") for n in range(5)]:
            self.assertGreater(told.get(value, 0), 5, value)

    def test_nothing_is_modified(self):
        game = duel(3)
        told = parts_of(game)
        roots = [(0, (1, 0, 2)), (1, (0, 0, 2))]
        reachable(game, roots).append("more")
        solve(game, roots)["more"] = ("drawn",)
        next_positions(game, roots[0]).append("more")
        over_value(game, roots[0])
        self.assertEqual(parts_of(game), told)
        self.assertEqual(roots, [(0, (1, 0, 2)), (1, (0, 0, 2))])
        self.assertNotIn("more", solve(game, roots))


if __name__ == "__main__":
    unittest.main()
