"""Promise 61: problems, sound ones, and their keys."""

import copy
import unittest

from skewer.book import solve
from skewer.lines import is_sound, keeping_moves, key, problems
from skewer.syntax import Board, Game
from tests.games import either, parts_of, ring_of, row, step_to, walk
from tests.made import Maker, made_games, small_rings
from tests.slow import plain_book
from tests.slow_more import plain_is_problem, plain_is_sound_problem, plain_keeping

FORK = (0, (1, 0, 0, 0, 2, 0))


def fork(clauses):
    """A man of side 0 goes from field 0 to one of three others; the other side has no move."""
    board = Board(6, [("a", [1, 5, 5, 5, -1, -1]), ("b", [2, -1, -1, -1, -1, -1]), ("c", [3, -1, -1, -1, -1, -1])])
    return Game(board, ["man"], clauses, [(either(("go", 0), ("go", 1), ("go", 2)), ("rest",))])


def ends(**fields):
    """Clauses that tell, of fields of the other side's man, whether it is then won, lost or drawn."""
    return [(("foeholds", 0, numbers), result) for result, numbers in fields.items()]


def hunt(size=6):
    return ring_of(size, [(walk(0, 1), walk(0, 1))])


def hunt_start(size=6):
    return (0, (1, 1, 0, 2) + (0,) * (size - 4))


class ProblemTest(unittest.TestCase):
    def check(self, game, position, expected_key, expected_sound):
        book = solve(game, [position])
        self.assertEqual(key(game, book, position), expected_key)
        self.assertIs(is_sound(game, book, position), expected_sound)
        for n in range(-1, 5):
            is_so = expected_key is not None and book[position] == ("won", 2 * n - 1)
            self.assertEqual(position in problems(game, book, n), is_so)

    def test_one_keeping_move(self):
        self.check(fork(ends(lost=[2], won=[1, 3])), FORK, (0, 2, (), 0), True)
        self.check(fork(ends(lost=[3], drawn=[1], won=[2])), FORK, (0, 3, (), 0), True)
        self.check(fork(ends(lost=[1], drawn=[2, 3])), FORK, (0, 1, (), 0), True)

    def test_several_keeping_moves(self):
        self.check(fork(ends(lost=[1, 2], won=[3])), FORK, None, False)
        self.check(fork(ends(lost=[1, 2, 3])), FORK, None, False)

    def test_several_moves_to_one_position(self):
        """The men behind them are the same, but there are two moves that keep the value."""
        game = Game(Board(2, [("on", [1, 0])]), ["man"], [],
                    [(either(row(("go", 0), ("take",)), row(("go", 0), ("take",), ("go", 0))), ("rest",))])
        self.check(game, (0, (1, 1)), None, False)
        self.check(game, (0, (1, 2)), None, False)

    def test_another_move_that_wins_more_slowly(self):
        """It does not keep the value, but it leads to a position that is lost for the other side."""
        back = either(step_to(0), ("go", 0))
        # The man of side 1 goes on without an end, so that from field 1 side 0 gets to field 5, and wins.
        board = Board(8, [("a", [1, 5, 5, 5, -1, -1, 7, 6]), ("b", [2, -1, -1, -1, -1, -1, -1, -1]),
                          ("c", [3, -1, -1, -1, -1, -1, -1, -1])])
        for slow, is_so in ((1, False), (7, True)):
            clauses = ends(lost=[2, 5], won=[3] if slow == 1 else [1, 3])
            game = Game(board, ["man"], clauses, [(either(("go", 0), ("go", 1), ("go", 2)), back)])
            self.check(game, (0, (1, 0, 0, 0, 0, 0, 2, 0)), (0, 2, (), 0), is_so)

    def test_won_in_an_even_number(self):
        """A side that is to move can have won."""
        board = Board(5, [("on", [1, 2, -1, 4, 3])])
        game = Game(board, ["man"], ends(won=[2]), [(("go", 0), ("go", 0))])
        start = (1, (0, 1, 0, 2, 0))
        book = solve(game, [start])
        self.assertEqual(book[start], ("won", 2))
        self.assertEqual(len(keeping_moves(game, book, start)), 1)
        self.check(game, start, None, False)

    def test_over_and_won(self):
        game = fork(ends(won=[4]))
        self.assertEqual(solve(game, [FORK])[FORK], ("won", 0))
        self.check(game, FORK, None, False)

    def test_not_won(self):
        """Though exactly one move keeps the value."""
        game = ring_of(5, [(step_to(0), step_to(0))])
        self.check(game, (0, (1, 0, 0, 2, 0)), None, False)
        self.check(fork(ends(drawn=[1], won=[2, 3])), FORK, None, False)
        game = Game(Board(3, [("on", [1, 2, -1])]), ["man"], [], [(("go", 0), row(("go", 0), ("foe",), ("take",)))])
        start = (0, (0, 0, 0))
        self.check(game, start, None, False)

    def test_lost_by_the_only_move(self):
        self.check(fork(ends(won=[1, 2, 3])), FORK, None, False)
        game = Game(Board(3, [("on", [1, -1, -1])]), ["man"], ends(won=[1]), [(("go", 0), ("rest",))])
        start = (0, (1, 0, 2))
        book = solve(game, [start])
        self.assertEqual((book[start], keeping_moves(game, book, start)), (("lost", 1), [(0, 1, (), 0)]))
        self.check(game, start, None, False)


class ProblemsTest(unittest.TestCase):
    def test_hunts(self):
        for size in (6, 7, 8):
            game = hunt(size)
            book = solve(game, [hunt_start(size)])
            found = []
            for n in range(-2, 7):
                expected = [position for position in sorted(book) if plain_is_problem(game, book, position, n)]
                self.assertEqual(problems(game, book, n), expected)
                found.append(len(expected))
            self.assertEqual(found[:3], [0, 0, 0])
            self.assertGreater(min(found[3:5]), 0)

    def test_an_empty_book(self):
        self.assertEqual(problems(hunt(), {}, 1), [])

    def test_made_games(self):
        maker = Maker(61)
        told = {}
        for game in made_games(61, 150) + small_rings(maker, 350):
            book = plain_book(game, [maker.position(game)])
            for n in (1, 2, 3):
                expected = [position for position in sorted(book) if plain_is_problem(game, book, position, n)]
                self.assertEqual(problems(game, book, n), expected)
                for position in expected:
                    self.assertEqual([key(game, book, position)], plain_keeping(game, book, position))
                    sound = is_sound(game, book, position)
                    self.assertIs(sound, plain_is_sound_problem(game, book, position))
                    told[(n, sound)] = told.get((n, sound), 0) + 1
            for position in sorted(book)[::5]:
                is_one = any(plain_is_problem(game, book, position, n) for n in range(1, 40))
                self.assertEqual(key(game, book, position) is not None, is_one)
                self.assertIs(is_sound(game, book, position), plain_is_sound_problem(game, book, position))
        self.assertGreater(min(told.get((n, sound), 0) for n, sound in ((1, True), (1, False), (2, True))), 3)

    def test_nothing_is_modified(self):
        game = hunt()
        book = solve(game, [hunt_start()])
        parts, told, positions = parts_of(game), copy.deepcopy(book), list(book)
        for n in range(4):
            problems(game, book, n).append("more")
        for position in book:
            key(game, book, position)
            is_sound(game, book, position)
        self.assertEqual((parts_of(game), book, list(book)), (parts, told, positions))
        self.assertNotIn("more", problems(game, book, 1))


if __name__ == "__main__":
    unittest.main()
