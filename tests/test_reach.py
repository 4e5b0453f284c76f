"""Promise 62: shortest games, and the positions within a number of moves."""

import unittest

from skewer.book import next_positions, reachable
from skewer.clauses import is_over
from skewer.errors import SkewerError, TooLarge
from skewer.play import is_line, line_after
from skewer.reach import shortest_game, within
from skewer.runs import moves
from skewer.syntax import Board, Game
from tests.games import either, game_of, parts_of, ride, ring_of, row, step_to, walk
from tests.made import Maker, made_games, small_rings
from tests.slow_more import plain_shortest, plain_within

START = (0, (1, 2, 0, 0))


def ring(clauses=None):
    """Two men on a ring of four fields, who step both ways."""
    return ring_of(4, [(either(step_to(0), step_to(1)), either(step_to(0), step_to(1)))], clauses)


def jumps(size=24):
    """Each man can go to each empty field."""
    jump = row(("any", ("go", 0)), ("empty",))
    return Game(Board(size, [("on", [(field + 1) % size for field in range(size)])]), ["man"], [], [(jump, jump)])


LARGE_START = (0, (1, 1, 2, 2) + (0,) * 20)


class ShortestGameTest(unittest.TestCase):
    def test_to_the_position_itself(self):
        self.assertEqual(shortest_game(ring(), START, START), [])
        over = ring([(("few", 2), "won")])
        self.assertEqual(shortest_game(over, START, START), [])
        self.assertEqual(shortest_game(jumps(), LARGE_START, LARGE_START), [])

    def test_one_move(self):
        self.assertEqual(shortest_game(ring(), START, (1, (0, 2, 0, 1))), [(0, 3, (), 0)])

    def test_the_least_of_several_moves(self):
        # Each man can take the other one, and stay there or go back.
        game = Game(Board(2, [("on", [1, 0])]), ["man"], [],
                    [(either(row(("go", 0), ("take",)), row(("go", 0), ("take",), ("go", 0))), ("rest",))])
        self.assertEqual(shortest_game(game, (0, (1, 1)), (1, (0, 1))), [(0, 1, (1,), 0)])
        self.assertEqual(shortest_game(game, (0, (1, 1)), (1, (1, 0))), [(0, 0, (1,), 0)])

    def test_several_moves(self):
        self.assertEqual(shortest_game(ring(), START, (0, (0, 0, 2, 1))), [(0, 3, (), 0), (1, 2, (), 0)])
        self.assertEqual(shortest_game(ring(), START, (0, (2, 0, 0, 1))), [(0, 3, (), 0), (1, 0, (), 0)])

    def test_the_least_of_several_lines(self):
        """The first move is the least one, also where the second one is then greater."""
        game = game_of(kinds=["man"], clauses=[], programs=[(either(ride(), row(("go", 0), ("go", 0))), ("go", 1))])
        start, wanted = (0, (1, 0, 0, 2)), (0, (0, 1, 2, 0))
        self.assertEqual(shortest_game(game, start, wanted), [(0, 1, (), 0), (3, 2, (), 0)])
        two = ring_of(6, [(either(step_to(0), step_to(1)), ("go", 0))])
        start, wanted = (0, (1, 0, 0, 1, 0, 2)), (1, (0, 1, 2, 0, 1, 0))
        line = shortest_game(two, start, wanted)
        self.assertEqual(line, plain_shortest(two, start, lambda one: one == wanted))

    def test_not_reached(self):
        self.assertIsNone(shortest_game(ring(), START, (0, (1, 1, 0, 0))))
        self.assertIsNone(shortest_game(ring(), START, (0, (1, 2, 0, 2))))
        # The other side is to move there.
        self.assertIsNone(shortest_game(ring(), (0, (0, 0, 0, 0)), (1, (0, 0, 0, 0))))

    def test_through_a_position_that_is_over(self):
        wanted = (0, (0, 0, 2, 1))
        self.assertEqual(len(shortest_game(ring(), START, wanted)), 2)
        over = ring([(("foeholds", 0, [3]), "lost")])
        between = (1, (0, 2, 0, 1))
        self.assertIs(is_over(over, between), True)
        self.assertNotEqual(moves(over, between), [])
        self.assertEqual(shortest_game(over, START, between), [(0, 3, (), 0)])
        self.assertIsNone(shortest_game(over, START, wanted))
        self.assertIsNone(shortest_game(ring([(("few", 2), "drawn")]), START, between))

    def test_around_a_position_that_is_over(self):
        """The position on the shortest way is over, and a longer way leads round it."""
        start, wanted = (0, (1, 0, 0, 0, 2, 0)), (0, (0, 0, 1, 0, 2, 0))
        steps = either(step_to(0), step_to(1))
        free = ring_of(6, [(steps, steps)])
        blocked = ring_of(6, [(steps, steps)], [(("and", ("foeholds", 0, [1]), ("holds", 0, [4])), "lost")])
        line, longer = shortest_game(free, start, wanted), shortest_game(blocked, start, wanted)
        self.assertEqual(len(line), 4)
        self.assertGreater(len(longer), 4)
        self.assertEqual(line, plain_shortest(free, start, lambda position: position == wanted))
        self.assertEqual(longer, plain_shortest(blocked, start, lambda position: position == wanted))

    def test_made_games(self):
        maker = Maker(62)
        lengths = {}
        for game in made_games(62, 200) + small_rings(maker, 250):
            start = maker.position(game)
            reached = reachable(game, [start])
            for wanted in [maker.one_of(reached), maker.one_of(reached), maker.position(game)]:
                line = shortest_game(game, start, wanted)
                self.assertEqual(line, plain_shortest(game, start, lambda position: position == wanted))
                if line is not None:
                    self.assertIs(is_line(game, start, line), True)
                    self.assertEqual(line_after(game, start, line), wanted)
                length = None if line is None else min(len(line), 4)
                lengths[length] = lengths.get(length, 0) + 1
        self.assertGreater(min(lengths.get(length, 0) for length in (None, 0, 1, 2, 3, 4)), 5)


class WithinTest(unittest.TestCase):
    def test_no_moves(self):
        self.assertEqual(within(ring(), START, 0), [START])
        self.assertEqual(within(jumps(), LARGE_START, 0), [LARGE_START])

    def test_less_than_none(self):
        self.assertEqual(within(ring(), START, -1), [])

    def test_one_move(self):
        self.assertEqual(within(ring(), START, 1), [START, (1, (0, 2, 0, 1))])
        self.assertEqual(within(ring(), (0, (1, 0, 2, 0)), 1),
                         [(0, (1, 0, 2, 0)), (1, (0, 0, 2, 1)), (1, (0, 1, 2, 0))])

    def test_several_moves(self):
        self.assertEqual(within(ring(), START, 2),
                         [(0, (0, 0, 2, 1)), START, (0, (2, 0, 0, 1)), (1, (0, 2, 0, 1))])

    def test_all(self):
        for n in (50, 10 ** 9):
            self.assertEqual(within(ring(), START, n), reachable(ring(), [START]))

    def test_not_through_a_position_that_is_over(self):
        over = ring([(("foeholds", 0, [3]), "lost")])
        self.assertEqual(within(over, START, 5), [START, (1, (0, 2, 0, 1))])
        for n in (0, 1, 2):
            self.assertEqual(within(ring([(("few", 2), "drawn")]), START, n), [START])

    def test_made_games(self):
        maker = Maker(63)
        for game in made_games(63, 150) + small_rings(maker, 150):
            start, n = maker.position(game), maker.below(5)
            self.assertEqual(within(game, start, n), plain_within(game, start, n))


class TooLargeTest(unittest.TestCase):
    def check(self, call, *arguments):
        with self.assertRaises(TooLarge) as caught:
            call(*arguments)
        self.assertEqual(caught.exception.limit, "positions")
        self.assertIsInstance(caught.exception, SkewerError)

    def test_more_than_20000(self):
        self.check(shortest_game, jumps(), LARGE_START, (0, (0,) * 24))
        self.check(within, jumps(), LARGE_START, 4)
        self.check(within, jumps(), LARGE_START, 10 ** 9)

    def test_found_before(self):
        wanted = next_positions(jumps(), LARGE_START)[0]
        self.assertEqual(len(shortest_game(jumps(), LARGE_START, wanted)), 1)
        self.assertEqual(len(within(jumps(), LARGE_START, 1)), 41)

    def collectors(self, ends):
        """A man goes by so many fields, with men whom it takes or not, and then off to a field of its own."""
        step = row(("go", 0), either(("rest",), ("take",)))
        off = [-1] * 24
        for at, many in enumerate(ends):
            off[many] = 15 + at
        board = Board(24, [("on", list(range(1, 15)) + [-1] * 10), ("off", off)])
        walks = [row(row(*[step] * many), ("go", 1)) for many in ends]
        return Game(board, ["man"], [], [(either(*walks), either())])

    def test_20000_and_one_more(self):
        start, missing = (0, (1,) + (2,) * 14 + (0,) * 9), (0, (0,) * 24)
        # The man has 2 ** 14 + 2 ** 11 + .. = 19999 moves, or one more.
        game, larger = self.collectors((14, 11, 10, 9, 4, 3, 2, 1, 0)), self.collectors((14, 11, 10, 9, 5))
        self.assertEqual(len(moves(game, start)), 19999)
        self.assertEqual(len(moves(larger, start)), 20000)
        self.assertEqual(len(within(game, start, 1)), 20000)
        self.assertEqual(len(within(game, start, 2)), 20000)
        self.assertIsNone(shortest_game(game, start, missing))
        self.check(within, larger, start, 1)
        self.check(within, larger, start, 2)
        self.check(shortest_game, larger, start, missing)


class ModifiedTest(unittest.TestCase):
    def test_nothing_is_modified(self):
        game = ring([(("foeholds", 0, [2]), "lost")])
        parts = parts_of(game)
        line = shortest_game(game, START, (1, (0, 2, 0, 1)))
        found = within(game, START, 2)
        line.append("more")
        found.append("more")
        self.assertEqual(parts_of(game), parts)
        self.assertEqual(shortest_game(game, START, (1, (0, 2, 0, 1))), line[:-1])
        self.assertEqual(within(game, START, 2), found[:-1])


if __name__ == "__main__":
    unittest.main()
