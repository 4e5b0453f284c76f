"""Promises 58 to 60: moves that keep a value, the best line, and the number of ways to win."""

import copy
import unittest

from skewer.book import reachable, solve
from skewer.lines import best_line, keeping_moves, ways_to_win
from skewer.play import is_line, line_after
from skewer.runs import after, moves
from skewer.syntax import Board, Game
from tests.games import capture, either, parts_of, ring_of, row, step_to, walk
from tests.made import Maker, made_games, small_rings
from tests.slow import plain_after, plain_book
from tests.slow_more import plain_keeping, plain_lines, plain_over, plain_winning_lines


def hunt(size=6, clauses=None):
    """Two men of side 0 hunt one of side 1."""
    return ring_of(size, [(walk(0, 1), walk(0, 1))], clauses)


def hunt_start(size=6):
    return (0, (1, 1, 0, 2) + (0,) * (size - 4))


def fork(clauses=None):
    """A man of side 0 goes from field 0 to one of three others, and from there no further."""
    board = Board(5, [("a", [1, -1, -1, -1, -1]), ("b", [2, -1, -1, -1, -1]), ("c", [3, -1, -1, -1, -1])])
    return Game(board, ["man"], clauses or [], [(either(("go", 0), ("go", 1), ("go", 2)), ("rest",))])


FORK = (0, (1, 0, 0, 0, 2))


def rows_of_steps(size=4):
    """Men of both sides step on, each on a row of its own, and none has a choice."""
    row_of = list(range(1, size)) + [-1]
    board = Board(2 * size, [("on", row_of + [field + size if field != -1 else -1 for field in row_of])])
    return Game(board, ["man"], [], [(step_to(0), step_to(0))])


class KeepingTest(unittest.TestCase):
    def check(self, game, position, expected):
        book = solve(game, [position])
        self.assertEqual(keeping_moves(game, book, position), expected)
        self.assertEqual(plain_keeping(game, book, position), expected)

    def test_won(self):
        self.check(fork([(("foeholds", 0, [1]), "lost")]), FORK, [(0, 1, (), 0), (0, 2, (), 0), (0, 3, (), 0)])
        self.check(fork([(("foeholds", 0, [2]), "lost"), (("foeholds", 0, [1, 3]), "drawn")]), FORK, [(0, 2, (), 0)])
        self.check(fork([(("foeholds", 0, [2, 3]), "lost"), (("foeholds", 0, [1]), "won")]), FORK,
                   [(0, 2, (), 0), (0, 3, (), 0)])

    def test_won_sooner_and_later(self):
        """A move that wins more slowly does not keep the value."""
        game = hunt()
        book = solve(game, [hunt_start()])
        several = 0
        for position in book:
            if book[position][0] == "won":
                number = book[position][1]
                kept = keeping_moves(game, book, position)
                slower = [move for move in moves(game, position) if move not in kept
                          and book[after(game, position, move)][0] == "lost"]
                self.assertEqual([book[after(game, position, move)] for move in kept],
                                 [("lost", number - 1)] * len(kept))
                self.assertTrue(all(book[after(game, position, move)][1] > number - 1 for move in slower))
                several += slower != []
        self.assertGreater(several, 5)

    def test_lost(self):
        won = [(("foeholds", 0, [1, 2, 3]), "won")]
        self.check(fork(won), FORK, [(0, 1, (), 0), (0, 2, (), 0), (0, 3, (), 0)])
        # The loss is put off as long as can be.
        board = Board(8, [("a", [1, 5, 3, 4, 5, -1, 7, 6]), ("b", [2, -1, -1, -1, -1, -1, -1, -1])])
        game = Game(board, ["man"], [(("foeholds", 0, [5]), "won")], [(either(("go", 0), ("go", 1)), ("go", 0))])
        self.check(game, (0, (1, 0, 0, 0, 0, 0, 2, 0)), [(0, 2, (), 0)])

    def test_drawn(self):
        self.check(fork([(("foeholds", 0, [1]), "won"), (("few", 2), "drawn")]), FORK, [])
        self.check(fork([(("foeholds", 0, [1]), "won"), (("foeholds", 0, [2, 3]), "drawn")]), FORK,
                   [(0, 2, (), 0), (0, 3, (), 0)])
        self.check(fork([(("foeholds", 0, [1, 3]), "won"), (("foeholds", 0, [2]), "drawn")]), FORK, [(0, 2, (), 0)])

    def test_drawn_for_ever(self):
        game = ring_of(5, [(step_to(0), step_to(0))])
        self.check(game, (0, (1, 0, 0, 2, 0)), [(0, 1, (), 0)])

    def test_over(self):
        """There are moves, but none that keeps the value."""
        for result in ("won", "lost", "drawn"):
            self.check(fork([(("few", 2), result)]), FORK, [])
        self.check(fork(), (0, (0, 1, 0, 0, 2)), [])

    def test_over_and_moves_that_would_keep_it(self):
        """From a position that is over and drawn, to one that is drawn, too."""
        game = ring_of(5, [(step_to(0), step_to(0))], [(("holds", 0, [0]), "drawn")])
        start = (0, (1, 0, 0, 2, 0))
        book = solve(game, [start, (1, (0, 1, 0, 2, 0))])
        self.assertEqual((book[start], book[(1, (0, 1, 0, 2, 0))]), (("drawn",), ("drawn",)))
        self.assertEqual(keeping_moves(game, book, start), [])
        game = fork([(("holds", 0, [0]), "won"), (("foeholds", 0, [1]), "lost")])
        self.check(game, FORK, [])

    def test_several_moves_to_one_position(self):
        # Each man can take the other one, and stay there or go back.
        game = Game(Board(2, [("on", [1, 0])]), ["man"], [],
                    [(either(row(("go", 0), ("take",)), row(("go", 0), ("take",), ("go", 0))), ("rest",))])
        expected = [(0, 0, (1,), 0), (0, 1, (1,), 0), (1, 0, (0,), 0), (1, 1, (0,), 0)]
        self.check(game, (0, (1, 1)), expected)

    def test_made_games(self):
        maker = Maker(58)
        told = {}
        for game in made_games(58, 120) + small_rings(maker, 250):
            book = plain_book(game, [maker.position(game)])
            for position in sorted(book)[::2]:
                kept = keeping_moves(game, book, position)
                self.assertEqual(kept, plain_keeping(game, book, position))
                what = (book[position][0], min(len(kept), 2), plain_over(game, position) is not None)
                told[what] = told.get(what, 0) + 1
        for word in ("won", "lost", "drawn"):
            for many, is_over in ((0, True), (1, False), (2, False)):
                self.assertGreater(told.get((word, many, is_over), 0), 5, (word, many))


class BestLineTest(unittest.TestCase):
    def test_drawn(self):
        game = ring_of(5, [(step_to(0), step_to(0))])
        start = (0, (1, 0, 0, 2, 0))
        self.assertEqual(best_line(game, solve(game, [start]), start), [])
        game = fork([(("foeholds", 0, [1]), "drawn"), (("foeholds", 0, [2, 3]), "won")])
        self.assertEqual(best_line(game, solve(game, [FORK]), FORK), [])

    def test_over(self):
        for result in ("won", "lost", "drawn"):
            game = fork([(("few", 2), result)])
            self.assertEqual(best_line(game, solve(game, [FORK]), FORK), [])

    def test_no_choice(self):
        game = rows_of_steps()
        men = (1, 0, 0, 0, 2, 0, 0, 0)
        book = solve(game, [(0, men)])
        line = [(0, 1, (), 0), (4, 5, (), 0), (1, 2, (), 0), (5, 6, (), 0), (2, 3, (), 0), (6, 7, (), 0)]
        self.assertEqual(book[(0, men)], ("lost", 6))
        self.assertEqual(best_line(game, book, (0, men)), line)
        self.assertEqual(best_line(game, book, (1, (0, 1, 0, 0, 2, 0, 0, 0))), line[1:])

    def test_the_least_moves(self):
        game = fork([(("foeholds", 0, [2, 3]), "lost"), (("foeholds", 0, [1]), "won")])
        self.assertEqual(best_line(game, solve(game, [FORK]), FORK), [(0, 2, (), 0)])

    def test_as_many_moves_as_the_value_tells(self):
        for size in (6, 7, 8):
            game = hunt(size)
            book = solve(game, [hunt_start(size)])
            for position in sorted(book)[::5]:
                line = best_line(game, book, position)
                if book[position] == ("drawn",):
                    self.assertEqual(line, [])
                else:
                    self.assertEqual(len(line), book[position][1])
                    self.assertIs(is_line(game, position, line), True)
                    self.assertIn(book[line_after(game, position, line)], [("lost", 0), ("won", 0)])
            self.assertEqual(len(best_line(game, book, hunt_start(size))), {6: 3, 7: 5, 8: 7}[size])

    def test_made_games(self):
        """The least one, as lists are compared, of all lines of so many moves that keep the value."""
        maker = Maker(59)
        lengths = {}
        for game in made_games(59, 150) + small_rings(maker, 400):
            book = plain_book(game, [maker.position(game)])
            for position in sorted(book)[::2]:
                line = best_line(game, book, position)
                if book[position][0] == "drawn":
                    self.assertEqual(line, [])
                elif book[position][1] < 5:
                    self.assertEqual(line, min(plain_winning_lines(game, book, position)))
                    lengths[len(line)] = lengths.get(len(line), 0) + 1
        self.assertGreater(min(lengths.get(many, 0) for many in range(5)), 5)


class WaysTest(unittest.TestCase):
    def check(self, game, position, expected):
        book = solve(game, [position])
        self.assertEqual(ways_to_win(game, book, position), expected)

    def test_not_won(self):
        self.check(fork([(("few", 2), "lost")]), FORK, 0)
        self.check(fork([(("few", 2), "drawn")]), FORK, 0)
        self.check(fork([(("foeholds", 0, [1, 2, 3]), "won")]), FORK, 0)
        self.check(fork([(("foeholds", 0, [1, 2, 3]), "drawn")]), FORK, 0)
        self.check(rows_of_steps(), (0, (1, 0, 0, 0, 2, 0, 0, 0)), 0)

    def test_over_and_won(self):
        self.check(fork([(("few", 2), "won")]), FORK, 1)

    def test_one_move(self):
        self.check(fork(), FORK, 3)
        self.check(fork([(("foeholds", 0, [1, 2]), "lost"), (("foeholds", 0, [3]), "drawn")]), FORK, 2)
        self.check(fork([(("foeholds", 0, [1]), "lost"), (("foeholds", 0, [2, 3]), "won")]), FORK, 1)

    def test_no_choice(self):
        self.check(rows_of_steps(), (0, (1, 0, 0, 0, 0, 2, 0, 0)), 1)

    def test_moves_to_one_position_are_ways_of_their_own(self):
        game = Game(Board(2, [("on", [1, 0])]), ["man"], [],
                    [(either(row(("go", 0), ("take",)), row(("go", 0), ("take",), ("go", 0))), ("rest",))])
        self.check(game, (0, (1, 1)), 4)

    def test_many_ways(self):
        """Each side steps on in one of two ways, as long as there are steps."""
        size = 11
        row_of = list(range(1, size)) + [-1]
        leads = row_of + [field + size if field != -1 else -1 for field in row_of] + [-1, -1]
        board = Board(2 * size + 2, [("on", leads)])
        # Going on by the kind man or king makes no other difference.
        step = either(row(("go", 0), ("empty",), ("lay", 0)), row(("go", 0), ("empty",), ("lay", 1)))
        game = Game(board, ["man", "king"], [], [(step, step)] * 2)
        men = [0] * (2 * size + 2)
        men[2], men[size + 3] = 1, 2
        start = (0, tuple(men))
        book = solve(game, [start])
        self.assertEqual(book[start], ("won", 15))
        self.assertEqual(ways_to_win(game, book, start), 2 ** 15)

    def test_by_all_lines(self):
        maker = Maker(60)
        told = {}
        for game in made_games(60, 150) + small_rings(maker, 400):
            book = plain_book(game, [maker.position(game)])
            for position in sorted(book)[::2]:
                if book[position][0] != "won":
                    self.assertEqual(ways_to_win(game, book, position), 0)
                elif book[position][1] < 4:
                    many = ways_to_win(game, book, position)
                    self.assertEqual(many, len(plain_winning_lines(game, book, position)))
                    told[min(many, 3)] = told.get(min(many, 3), 0) + 1
        self.assertGreater(min(told.get(many, 0) for many in (1, 2, 3)), 5)

    def test_by_the_moves(self):
        """As many as behind each move that keeps the value."""
        game = hunt(8)
        book = solve(game, [hunt_start(8)])
        self.assertEqual(ways_to_win(game, book, hunt_start(8)), self.ways(game, book, hunt_start(8)))
        self.assertGreater(max(ways_to_win(game, book, position) for position in book), 7)

    def ways(self, game, book, position):
        if book[position][1] == 0:
            return 1
        return sum(self.ways(game, book, plain_after(position, move)) for move in plain_keeping(game, book, position))

    def test_a_line_that_wins_though_a_move_does_not_keep_the_value(self):
        """It has as many moves, but the other side has not played well."""
        game = hunt(7)
        book = solve(game, [hunt_start(7)])
        lines = [line for line in plain_lines(game, hunt_start(7), 3)
                 if book[line_after(game, hunt_start(7), line)] == ("lost", 0)]
        self.assertEqual(book[hunt_start(7)], ("won", 5))
        self.assertGreater(len(lines), 0)
        self.assertEqual(ways_to_win(game, book, hunt_start(7)), self.ways(game, book, hunt_start(7)))


class ModifiedTest(unittest.TestCase):
    def test_nothing_is_modified(self):
        game = hunt()
        book = solve(game, [hunt_start()])
        parts, told, positions = parts_of(game), copy.deepcopy(book), list(book)
        for position in reachable(game, [hunt_start()])[::11]:
            keeping_moves(game, book, position).append("more")
            best_line(game, book, position).append("more")
            ways_to_win(game, book, position)
            self.assertNotIn("more", keeping_moves(game, book, position) + best_line(game, book, position))
        self.assertEqual((parts_of(game), book, list(book)), (parts, told, positions))

    def test_a_book_that_has_more(self):
        """Other positions in the book do not matter."""
        game = ring_of(6, [(either(walk(0, 1), capture(0)), walk(0, 1))])
        small, large = solve(game, [hunt_start()]), solve(game, [hunt_start(), (1, (0, 2, 2, 0, 1, 1))])
        self.assertLess(len(small), len(large))
        for position in sorted(small)[::9]:
            for call in (keeping_moves, best_line, ways_to_win):
                self.assertEqual(call(game, small, position), call(game, large, position))


if __name__ == "__main__":
    unittest.main()
