"""Promises 28 to 30: limits, the positions before a position, and the undo of a line."""

import unittest

from skewer.back import before, limits_of
from skewer.clauses import end, is_over
from skewer.runs import after, moves
from skewer.syntax import Board, Game
from tests.games import board_of, capture, either, game_of, parts_of, ring_of, row, step_to, walk
from tests.made import Maker, made_games
from tests.slow import all_before, all_positions, within_limits

STEP = row(("go", 0), either(("empty",), row(("foe",), ("take",))))
MANY = [99] * 4


def line_game(programs, clauses=None, size=4):
    """A game on a row of fields with the ways east and west."""
    return game_of(board=board_of(size), kinds=["man", "king"][:len(programs)], clauses=clauses or [],
                   programs=programs)


class LimitsTest(unittest.TestCase):
    def test_no_man(self):
        self.assertEqual(limits_of(game_of(), (0, (0, 0, 0, 0))), [0, 0, 0, 0])

    def test_one_man(self):
        for man in (1, 2, 3, 4):
            expected = [1 if one == man else 0 for one in (1, 2, 3, 4)]
            self.assertEqual(limits_of(game_of(), (0, (0, man, 0, 0))), expected)
            self.assertEqual(limits_of(game_of(), (1, (0, man, 0, 0))), expected)

    def test_several_men(self):
        self.assertEqual(limits_of(game_of(), (0, (1, 2, 3, 4))), [1, 1, 1, 1])
        self.assertEqual(limits_of(game_of(), (1, (2, 2, 2, 0))), [0, 3, 0, 0])
        self.assertEqual(limits_of(game_of(), (0, (4, 1, 4, 4))), [1, 0, 0, 3])

    def test_the_game_tells_the_kinds(self):
        self.assertEqual(limits_of(line_game([(STEP, STEP)]), (0, (2, 0, 1, 2))), [1, 2])
        six = game_of(kinds=["a", "b", "c", "d", "e", "f"], programs=[(STEP, STEP)] * 6)
        self.assertEqual(limits_of(six, (0, (12, 0, 7, 12))), [0, 0, 0, 0, 0, 0, 1, 0, 0, 0, 0, 2])


class BeforeTest(unittest.TestCase):
    def test_steps(self):
        game = line_game([(step_to(0), step_to(1))])
        self.assertEqual(before(game, (1, (0, 1, 2, 0)), [1, 1]), [((0, (1, 0, 2, 0)), (0, 1, (), 0))])
        self.assertEqual(before(game, (0, (0, 1, 2, 0)), [1, 1]), [((1, (0, 1, 0, 2)), (3, 2, (), 0))])
        self.assertEqual(before(game, (0, (0, 1, 0, 2)), [1, 1]), [])
        self.assertEqual(before(game, (1, (0, 0, 0, 0)), [9, 9]), [])

    def test_several_men_and_ways(self):
        game = line_game([(walk(0, 1), walk(0, 1))])
        expected = [
            ((0, (0, 0, 1, 1)), (2, 1, (), 0)),
            ((0, (0, 1, 1, 0)), (2, 3, (), 0)),
            ((0, (1, 0, 0, 1)), (0, 1, (), 0)),
        ]
        self.assertEqual(before(game, (1, (0, 1, 0, 1)), [2, 0]), expected)

    def test_men_taken(self):
        game = line_game([(STEP, STEP)], size=3)
        expected = [((0, (1, 0, 0)), (0, 1, (), 0)), ((0, (1, 2, 0)), (0, 1, (1,), 0))]
        self.assertEqual(before(game, (1, (0, 1, 0)), [1, 1]), expected)
        self.assertEqual(before(game, (1, (0, 1, 0)), [1, 0]), expected[:1])

    def test_men_of_each_kind_and_side_taken(self):
        game = line_game([(row(("go", 0), ("take",)), ("rest",)), (("rest",), ("rest",))])
        found = before(game, (1, (0, 1, 0, 0)), MANY)
        self.assertEqual(found, [((0, (1, man, 0, 0)), (0, 1, (1,), 0)) for man in (1, 2, 3, 4)])
        self.assertEqual(before(game, (1, (0, 1, 0, 0)), [1, 0, 1, 1]), found[2:])
        self.assertEqual(before(game, (1, (0, 1, 0, 0)), [2, 1, 0, 0]), found[:2])

    def test_several_men_taken(self):
        game = line_game([(row(("any", capture(0)), ("go", 0)), ("rest",))])
        self.assertEqual(before(game, (1, (0, 0, 0, 1)), [1, 2]), [
            ((0, (0, 0, 1, 0)), (2, 3, (), 0)),
            ((0, (0, 1, 2, 0)), (1, 3, (2,), 0)),
            ((0, (1, 2, 2, 0)), (0, 3, (1, 2), 0)),
        ])
        self.assertEqual(len(before(game, (1, (0, 0, 0, 1)), [1, 1])), 2)

    def test_limits_of_men_on_the_board_and_taken_ones_together(self):
        game = line_game([(capture(0), ("rest",))])
        position = (1, (0, 1, 0, 2))
        self.assertEqual(before(game, position, [1, 2]), [((0, (1, 2, 0, 2)), (0, 1, (1,), 0))])
        self.assertEqual(before(game, position, [1, 1]), [])
        self.assertEqual(before(game, position, [0, 2]), [])

    def test_limits_of_zero_and_below_the_numbers(self):
        game = line_game([(step_to(0), step_to(1))])
        for limits in ([0, 0], [1, 0], [0, 1], [-1, 5], [5, -1]):
            self.assertEqual(before(game, (1, (0, 1, 2, 0)), limits), [])
        self.assertEqual(len(before(game, (1, (0, 1, 2, 0)), [1, 1])), 1)

    def test_limits_beyond_the_number_of_fields(self):
        game = line_game([(STEP, STEP)], size=3)
        found = before(game, (1, (0, 1, 0)), [1000, 1000])
        self.assertEqual(found, before(game, (1, (0, 1, 0)), [3, 3]))
        self.assertEqual(len(found), 2)

    def test_kinds_changed(self):
        crown = row(("go", 0), ("empty",), ("lay", 1))
        game = line_game([(crown, ("rest",)), (step_to(1), ("rest",))])
        position = (1, (0, 3, 0, 0))
        self.assertEqual(before(game, position, MANY), [
            ((0, (0, 0, 3, 0)), (2, 1, (), 1)),
            ((0, (1, 0, 0, 0)), (0, 1, (), 1)),
        ])
        # The limits are those of the kind that the man had.
        self.assertEqual(before(game, position, [1, 0, 0, 0]), [((0, (1, 0, 0, 0)), (0, 1, (), 1))])
        self.assertEqual(before(game, position, [0, 0, 1, 0]), [((0, (0, 0, 3, 0)), (2, 1, (), 1))])
        self.assertEqual(before(game, (1, (0, 1, 0, 0)), MANY), [])

    def test_kinds_changed_several_times(self):
        game = line_game([(row(("lay", 1), ("go", 0), ("lay", 0)), ("rest",)), (("lay", 0), ("rest",))])
        self.assertEqual(before(game, (1, (0, 1, 0, 0)), MANY), [
            ((0, (0, 3, 0, 0)), (1, 1, (), 0)),
            ((0, (1, 0, 0, 0)), (0, 1, (), 0)),
        ])

    def test_back_to_the_field_where_it_began(self):
        shot = row(("go", 0), ("foe",), ("take",), ("go", 1))
        game = line_game([(either(shot, row(("go", 0), ("go", 1))), ("rest",))])
        expected = [((0, (0, 1, 2, 0)), (1, 1, (2,), 0))]
        self.assertEqual(before(game, (1, (0, 1, 0, 0)), [1, 1]), expected)
        self.assertEqual(before(game, (1, (0, 1, 0, 0)), [1, 0]), [])

    def test_another_kind_on_the_same_field(self):
        game = line_game([(("lay", 1), ("rest",)), (("lay", 1), ("rest",))])
        self.assertEqual(before(game, (1, (0, 3, 0, 0)), MANY), [((0, (0, 1, 0, 0)), (1, 1, (), 1))])

    def test_no_man_may_stand_where_it_began(self):
        # Backwards, a man could be put upon the first field, on which the moving man stands itself.
        game = line_game([(row(("take",), ("go", 0)), ("rest",))])
        self.assertEqual(before(game, (1, (0, 1, 0, 0)), [9, 9]), [])

    def test_it_can_end_where_a_man_was_taken_and_pass_the_first_field(self):
        roam = ("any", either(("go", 0), row(("foe",), ("take",))))
        game = ring_of(3, [(roam, ("rest",))])
        table = all_before(game)
        for position in all_positions(game):
            expected = sorted(pair for pair in table.get(position, []) if within_limits(pair[0], [3, 3]))
            self.assertEqual(before(game, position, [3, 3]), expected)
        self.assertIn(((0, (1, 2, 2)), (0, 0, (1, 2), 0)), before(game, (1, (1, 0, 0)), [3, 3]))

    def test_a_clause_holds_in_the_earlier_position(self):
        for clause in (("lacks", 1), ("few", 2), ("holds", 0, [0]), ("foelacks", 1), ("not", ("stuck",))):
            game = line_game([(step_to(0), step_to(1)), (STEP, STEP)], [(clause, "drawn")])
            self.assertEqual(before(game, (1, (0, 1, 2, 0)), MANY), [])
        game = line_game([(STEP, step_to(1))], [(("few", 1), "won")])
        # In the earlier positions there are one and two men; the later one may be over.
        self.assertEqual(before(game, (1, (0, 1, 0, 0)), [1, 1]), [((0, (1, 2, 0, 0)), (0, 1, (1,), 0))])

    def test_clauses_are_asked_for_the_side_that_moves(self):
        game = line_game([(step_to(0), step_to(1))], [(("holds", 0, [1]), "won")])
        self.assertEqual(len(before(game, (1, (0, 1, 2, 0)), [1, 1])), 1)
        self.assertEqual(len(before(game, (0, (0, 1, 2, 0)), [1, 1])), 1)
        self.assertEqual(before(game, (1, (0, 0, 1, 2)), [1, 1]), [])

    def test_programs_that_spell_nothing_or_never_move(self):
        for program in (either(), ("rest",), row(("go", 0), either()), ("any", row(("go", 0), ("go", 1)))):
            game = line_game([(program, program)])
            for position in ((0, (0, 1, 2, 0)), (1, (1, 0, 0, 2))):
                self.assertEqual(before(game, position, [5, 5]), [])

    def test_one_field(self):
        game = Game(Board(1, [("on", [0])]), ["man", "king"], [], [(("lay", 1), ("lay", 1)), (("lay", 0), ("go", 0))])
        self.assertEqual(before(game, (1, (3,)), MANY), [((0, (1,)), (0, 0, (), 1))])
        self.assertEqual(before(game, (0, (4,)), MANY), [((1, (2,)), (0, 0, (), 1))])
        self.assertEqual(before(game, (0, (2,)), MANY), [])

    def test_greatest_board(self):
        """Backwards it takes no search through all positions."""
        fields = list(range(24))
        ways = [("east", fields[1:] + [-1]), ("west", [-1] + fields[:-1])]
        game = Game(Board(24, ways), ["man", "king"], [], [(walk(0), walk(1)), (walk(0, 1), walk(0, 1))])
        men = (1, 0, 0, 2, 0, 3) * 4
        found = before(game, (1, men), [6, 6, 6, 6])
        # Men could come only from fields where a king stands; each king comes from the west, and has taken one of two
        # kinds there or nothing.
        expected = []
        for field in (5, 11, 17, 23):
            for man in (0, 2, 4):
                earlier = men[:field - 1] + (3, man) + men[field + 1:]
                expected.append(((0, earlier), (field - 1, field, (field,) if man else (), 1)))
        self.assertEqual(found, sorted(expected))

    def test_made_games_against_a_slow_search(self):
        maker = Maker(28)
        games = [game for game in made_games(28, 80) if (2 * len(game.kinds) + 1) ** game.board.size <= 400]
        count = 0
        for game in games:
            table = all_before(game)
            number = 2 * len(game.kinds)
            for position in all_positions(game)[maker.below(3)::4]:
                tried = [[0] * number, limits_of(game, position), [99] * number]
                tried.append([most + maker.below(2) for most in tried[1]])
                tried.append([maker.below(4) for _ in range(number)])
                for limits in tried:
                    expected = sorted(pair for pair in table.get(position, []) if within_limits(pair[0], limits))
                    count += len(expected)
                    self.assertEqual(before(game, position, limits), expected)
        self.assertGreater(count, 4000)

    def test_nothing_is_modified(self):
        game = line_game([(STEP, STEP)])
        told = parts_of(game)
        limits = [1, 1]
        before(game, (1, (0, 1, 0, 0)), limits).append("more")
        limits_of(game, (1, (0, 1, 0, 0))).append("more")
        self.assertEqual((parts_of(game), limits), (told, [1, 1]))


class UndoTest(unittest.TestCase):
    def test_lines_undone_step_by_step(self):
        maker = Maker(30)
        games = made_games(30, 60) + [ring_of(6, [(walk(0), walk(1)), (walk(0, 1), walk(0, 1))])] * 40
        count = 0
        for game in games:
            first = position = maker.position(game)
            limits = limits_of(game, first)
            passed = [(first, None)]
            while not is_over(game, position) and len(passed) < 7:
                move = maker.one_of(moves(game, position))
                position = after(game, position, move)
                passed.append((position, move))
            for (earlier, _), (later, move) in zip(passed, passed[1:]):
                count += 1
                numbers = limits_of(game, earlier)
                self.assertIn((earlier, move), before(game, later, numbers))
                # Kinds can change on the way, so that the first numbers need not be enough.
                if within_limits(earlier, limits):
                    self.assertIn((earlier, move), before(game, later, limits))
        self.assertGreater(count, 100)

    def test_each_pair_leads_to_the_position(self):
        maker = Maker(29)
        count = 0
        for game in made_games(29, 100):
            position = maker.position(game)
            limits = [1 + most for most in limits_of(game, position)]
            for earlier, move in before(game, position, limits):
                count += 1
                self.assertIn(move, moves(game, earlier))
                self.assertEqual(after(game, earlier, move), position)
                self.assertIsNone(end(game, earlier))
                self.assertTrue(within_limits(earlier, limits))
        self.assertGreater(count, 100)


if __name__ == "__main__":
    unittest.main()
