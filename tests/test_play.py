"""Promise 19: lines of play."""

import unittest

from skewer.clauses import is_over
from skewer.errors import InvalidMove, SkewerError
from skewer.play import is_line, line_after
from skewer.runs import after, moves
from tests.games import board_of, capture, game_of, hop, parts_of, ride, ring_of, step_to, walk
from tests.made import Maker, made_games

START = (0, (1, 0, 2, 0))
LINE = [(0, 1, (), 0), (2, 0, (1,), 0)]


def hops(clauses):
    """Men of side 0 ride east, those of side 1 hop west over a foe."""
    west_hop = ("row", [("go", 1), ("foe",), ("take",), ("go", 1), ("empty",)])
    return game_of(board=board_of(4), kinds=["man"], clauses=clauses, programs=[(ride(), west_hop)])


def index_of(game, position, line):
    """The index that the InvalidMove of line_after tells, or None; is_line must agree with it."""
    try:
        line_after(game, position, line)
    except InvalidMove as error:
        assert is_line(game, position, line) is False
        return error.index
    assert is_line(game, position, line) is True
    return None


class LinesTest(unittest.TestCase):
    def setUp(self):
        self.game = hops([(("lacks", 0), "lost")])

    def test_no_move(self):
        self.assertEqual(line_after(self.game, START, []), START)
        self.assertIs(is_line(self.game, START, []), True)

    def test_no_move_from_a_position_that_is_over(self):
        for position in ((0, (2, 0, 0, 0)), (0, (0, 0, 0, 1))):
            self.assertIs(is_over(self.game, position), True)
            self.assertEqual(line_after(self.game, position, []), position)
            self.assertIs(is_line(self.game, position, []), True)

    def test_one_move(self):
        self.assertEqual(line_after(self.game, START, LINE[:1]), (1, (0, 1, 2, 0)))
        self.assertIs(is_line(self.game, START, LINE[:1]), True)

    def test_several_moves(self):
        self.assertEqual(line_after(self.game, START, LINE), (0, (2, 0, 0, 0)))
        self.assertIs(is_line(self.game, START, LINE), True)

    def test_kind_changed_on_the_way(self):
        game = game_of(programs=[(ride(), hop()), (ride(), ("go", 1))], clauses=[])
        line = [(0, 1, (), 0), (2, 0, (1,), 1)]
        self.assertEqual(line_after(game, (0, (1, 0, 2, 0)), line), (0, (4, 0, 0, 0)))
        self.assertEqual(index_of(game, (0, (1, 0, 2, 0)), [line[0], (2, 0, (1,), 0)]), 1)

    def test_no_move_at_the_first_index(self):
        for wrong in ((0, 2, (), 0), (0, 1, (2,), 0), (0, 1, (), 1), (0, 0, (), 0), (1, 2, (), 0), (2, 1, (), 0),
                      (-1, 1, (), 0), (9, 1, (), 0), (0, 9, (), 0)):
            with self.subTest(wrong=wrong):
                self.assertEqual(index_of(self.game, START, [wrong]), 0)
                self.assertEqual(index_of(self.game, START, [wrong] + LINE), 0)

    def test_no_move_at_a_middle_and_at_the_last_index(self):
        game = ring_of(6, [(step_to(0), step_to(1))])
        line = [(0, 1, (), 0), (5, 4, (), 0), (1, 2, (), 0), (4, 3, (), 0)]
        start = (0, (1, 0, 0, 0, 0, 2))
        self.assertEqual(line_after(game, start, line), (0, (0, 0, 1, 2, 0, 0)))
        for index in range(4):
            wrong = line[:index] + [(3, 4, (), 0)] + line[index + 1:]
            self.assertEqual(index_of(game, start, wrong), index)
            self.assertEqual(index_of(game, start, wrong[:index + 1]), index)

    def test_the_first_of_several(self):
        self.assertEqual(index_of(self.game, START, [LINE[0], LINE[0], (7, 7, (), 7)]), 1)

    def test_the_other_side_is_to_move(self):
        self.assertEqual(index_of(self.game, START, [LINE[0], (1, 2, (), 0)]), 1)
        self.assertEqual(index_of(self.game, (1, START[1]), [LINE[0]]), 0)

    def test_on_behind_a_position_that_is_over_by_a_clause(self):
        game = ring_of(6, [(walk(0), walk(1))], [(("few", 2), "drawn")])
        start = (0, (1, 2, 0, 0, 2, 0))
        line = [(0, 1, (1,), 0), (4, 3, (), 0)]
        self.assertIn(line[1], moves(game, after(game, start, line[0])))
        self.assertEqual(index_of(game, start, line), 1)
        self.assertIsNone(index_of(game, start, line[:1]))
        self.assertEqual(index_of(game, (0, (1, 0, 0, 2, 0, 0)), [(0, 1, (), 0)]), 0)

    def test_on_behind_a_position_that_is_over_without_a_move(self):
        self.assertEqual(index_of(hops([]), START, LINE + [(0, 1, (), 0)]), 2)
        self.assertEqual(index_of(hops([]), (0, (0, 0, 0, 1)), [(3, 3, (), 0)]), 0)

    def test_the_error(self):
        with self.assertRaises(InvalidMove) as caught:
            line_after(self.game, START, [LINE[0], LINE[0]])
        self.assertEqual(caught.exception.index, 1)
        self.assertIsInstance(caught.exception, SkewerError)

    def test_made_lines(self):
        maker = Maker(19)
        longest = 0
        games = made_games(19, 60) + [ring_of(8, [(walk(0), walk(1)), (walk(0, 1), capture(0))])] * 20
        for game in games:
            start = position = maker.position(game)
            line = []
            while not is_over(game, position) and len(line) < 5:
                line.append(maker.one_of(moves(game, position)))
                position = after(game, position, line[-1])
            longest = max(longest, len(line))
            self.assertEqual(line_after(game, start, line), position)
            self.assertIs(is_line(game, start, line), True)
            if is_over(game, position):
                self.assertEqual(index_of(game, start, line + [(0, 1, (), 0)]), len(line))
        self.assertEqual(longest, 5)

    def test_nothing_is_modified(self):
        told = parts_of(self.game)
        line = list(LINE)
        line_after(self.game, START, line)
        is_line(self.game, START, line)
        index_of(self.game, START, line + line)
        self.assertEqual((parts_of(self.game), line), (told, LINE))


if __name__ == "__main__":
    unittest.main()
