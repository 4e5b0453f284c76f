"""Promises 15, 16 and 17: men, spots, moves and what stands behind a move."""

import copy
import itertools
import unittest

from skewer.runs import after, kind_of, man_of, moves, side_of, spots
from skewer.syntax import Board, Game
from tests.games import board_of, game_of, hop, ride
from tests.made import Maker, made_games
from tests.plain import plain_moves, plain_spots

MEN = (0, 1, 2, 3, 4, 0)


def game_with(programs, size=6, ways=None, kinds=None):
    return game_of(board=board_of(size, ways), clauses=[], programs=programs, kinds=kinds)


def game_of_man(program, size=6, ways=None):
    """A game with one kind, whose men of both sides have this program."""
    return game_with([(program, program)], size, ways, ["man"])


def slide(way):
    return ("any", ("row", [("go", way), ("empty",)]))


class MenTest(unittest.TestCase):
    def test_men(self):
        expected = [(0, 0, 1), (1, 0, 2), (0, 1, 3), (1, 1, 4), (0, 2, 5), (0, 5, 11), (1, 5, 12)]
        for side, kind, man in expected:
            self.assertEqual((man_of(side, kind), side_of(man), kind_of(man)), (man, side, kind))

    def test_there_and_back(self):
        for man in range(1, 13):
            self.assertEqual(man_of(side_of(man), kind_of(man)), man)


class SpotsTest(unittest.TestCase):
    """The board has the ways east (0) and west (1); the men are those of both sides and kinds, on the fields 1 to 4."""

    def check(self, program, spot, expected, side=0):
        with self.subTest(program=program, spot=spot, side=side):
            self.assertEqual(spots(game_with([]), side, program, spot), expected)

    def check_fields(self, program, field, expected, side=0, men=MEN, kind=0):
        self.check(program, (field, men, kind), [(end, men, kind) for end in expected], side)

    def test_go(self):
        for field in range(5):
            self.check_fields(("go", 0), field, [field + 1])
            self.check_fields(("go", 1), field + 1, [field])
        self.check_fields(("go", 0), 5, [])
        self.check_fields(("go", 1), 0, [])

    def test_go_to_the_same_field(self):
        game = game_of_man(("rest",), 2, [("round", [0, 0])])
        self.assertEqual(spots(game, 0, ("go", 0), (0, (0, 1), 0)), [(0, (0, 1), 0)])

    def test_empty(self):
        for field in range(6):
            self.check_fields(("empty",), field, [field] if field in (0, 5) else [])

    def test_own_and_foe_for_both_sides(self):
        for field in range(6):
            first, second = field in (1, 3), field in (2, 4)
            self.check_fields(("own",), field, [field] if first else [], 0)
            self.check_fields(("own",), field, [field] if second else [], 1)
            self.check_fields(("foe",), field, [field] if second else [], 0)
            self.check_fields(("foe",), field, [field] if first else [], 1)

    def test_at_for_both_sides_and_kinds(self):
        for field, side in itertools.product(range(6), (0, 1)):
            self.check_fields(("at", 0), field, [field] if field in (1, 2) else [], side)
            self.check_fields(("at", 1), field, [field] if field in (3, 4) else [], side)

    def test_the_kind_of_the_moving_man_is_not_asked(self):
        for kind in (0, 1):
            self.check_fields(("at", 0), 1, [1], kind=kind)
            self.check_fields(("at", 1), 1, [], kind=kind)

    def test_take(self):
        for side in (0, 1):
            self.check(("take",), (0, MEN, 0), [], side)
            self.check(("take",), (1, MEN, 0), [(1, (0, 0, 2, 3, 4, 0), 0)], side)
            self.check(("take",), (4, MEN, 1), [(4, (0, 1, 2, 3, 0, 0), 1)], side)

    def test_lay(self):
        for kind, there in itertools.product((0, 1), (0, 2)):
            self.check(("lay", 1), (there, MEN, kind), [(there, MEN, 1)])
            self.check(("lay", 0), (there, MEN, kind), [(there, MEN, 0)])

    def test_rest(self):
        for field in range(6):
            self.check_fields(("rest",), field, [field])

    def test_row(self):
        self.check_fields(("row", []), 3, [3])
        self.check_fields(("row", [("go", 0)]), 3, [4])
        self.check_fields(("row", [("go", 0), ("go", 0), ("empty",)]), 3, [5])
        self.check_fields(("row", [("go", 0), ("empty",), ("go", 0)]), 3, [])
        self.check_fields(("row", [("go", 0), ("go", 0), ("go", 0)]), 3, [])
        self.check(("row", [("go", 0), ("take",), ("empty",), ("lay", 1)]), (0, MEN, 0), [(1, (0, 0, 2, 3, 4, 0), 1)])
        self.check(("row", [("take",), ("take",)]), (1, MEN, 0), [])

    def test_either(self):
        self.check_fields(("either", []), 3, [])
        self.check_fields(("either", [("go", 0)]), 3, [4])
        self.check_fields(("either", [("go", 0), ("go", 1)]), 3, [2, 4])
        self.check_fields(("either", [("go", 0), ("rest",), ("go", 0)]), 3, [3, 4])
        self.check_fields(("either", [("empty",), ("foe",)]), 3, [])

    def test_any(self):
        self.check_fields(("any", ("go", 0)), 2, [2, 3, 4, 5])
        self.check_fields(("any", ("go", 1)), 2, [0, 1, 2])
        self.check_fields(("any", ("go", 0)), 5, [5])
        self.check_fields(("any", ("either", [])), 2, [2])
        self.check_fields(("any", ("rest",)), 2, [2])
        self.check_fields(("any", ("row", [])), 2, [2])
        self.check_fields(slide(0), 0, [0])
        self.check_fields(slide(0), 4, [4, 5])
        self.check_fields(("any", ("row", [("go", 0), ("go", 0)])), 1, [1, 3, 5])

    def test_any_that_comes_back(self):
        self.check_fields(("any", ("either", [("go", 0), ("go", 1)])), 3, [0, 1, 2, 3, 4, 5])
        game = game_of_man(("rest",), 4, [("round", [1, 2, 0, 0])])
        spot = (3, (0, 0, 0, 0), 0)
        self.assertEqual(spots(game, 0, ("any", ("go", 0)), spot), [(at, spot[1], 0) for at in range(4)])

    def test_any_with_men_taken_and_kinds(self):
        step = ("row", [("go", 0), ("foe",), ("take",), ("go", 0), ("lay", 1)])
        expected = [(1, MEN, 0), (3, (0, 1, 0, 3, 4, 0), 1), (5, (0, 1, 0, 3, 0, 0), 1)]
        self.check(("any", step), (1, MEN, 0), expected)

    def test_empty_row_and_either_inside(self):
        self.check_fields(("row", [("row", []), ("go", 0), ("row", [])]), 1, [2])
        self.check_fields(("row", [("go", 0), ("either", [])]), 1, [])
        self.check_fields(("either", [("either", []), ("row", []), ("go", 0)]), 1, [1, 2])
        self.check_fields(("either", [("row", []), ("rest",)]), 1, [1])

    def test_nested(self):
        program = ("row", [("either", [("go", 0), ("go", 1)]), ("either", [("own",), ("row", [("foe",), ("take",)])])])
        self.check(program, (3, MEN, 1), [(2, (0, 1, 0, 3, 4, 0), 1), (4, (0, 1, 2, 3, 0, 0), 1)])
        self.check(program, (3, MEN, 1), [(2, MEN, 1), (4, MEN, 1)], 1)
        self.check_fields(("any", ("any", ("any", ("go", 0)))), 3, [3, 4, 5])
        self.check_fields(("row", [("any", ("go", 0)), ("any", ("go", 1)), ("empty",)]), 3, [0, 5])

    def test_ascending_and_each_once(self):
        # By fields first, then by the men that are left, and then by kinds.
        program = ("row", [("any", ("either", [("go", 1), ("take",)])), ("any", ("either", [("lay", 0), ("lay", 1)]))])
        left = [(a, b, 2, 3, 4, 0) for a in (0,) for b in (0, 1)]
        expected = [(field, men, kind) for field in (0, 1) for men in left for kind in (0, 1)]
        self.check(program, (1, MEN, 1), expected)

    def test_the_list_is_new(self):
        first = spots(game_with([]), 0, ("rest",), (0, MEN, 0))
        first.append("more")
        self.assertEqual(spots(game_with([]), 0, ("rest",), (0, MEN, 0)), [(0, MEN, 0)])
        self.assertEqual(spots(game_with([]), 0, ("row", []), (0, MEN, 0)), [(0, MEN, 0)])

    def test_deepest_program(self):
        program = ("go", 0)
        for _ in range(7):
            program = ("any", program)
        self.check_fields(program, 0, [0, 1, 2, 3, 4, 5])

    def test_many_rows_that_meet(self):
        # Row by row there would be 2 to the 57th of them.
        program = ("row", [("either", [("rest",), ("row", [])])] * 19 + [("go", 0)])
        self.check_fields(program, 2, [3])

    def test_made_programs(self):
        maker = Maker(5)
        many = 0
        for game in made_games(11, 200):
            for program in [program for pair in game.programs for program in pair]:
                turn, men = maker.position(game)
                spot = (maker.below(game.board.size), men, maker.below(len(game.kinds)))
                found = spots(game, turn, program, spot)
                many += len(found) > 1
                self.assertEqual(found, sorted(plain_spots(game, turn, program, spot)))
        self.assertGreater(many, 100)


class MovesTest(unittest.TestCase):
    def test_steps_and_hops(self):
        game = game_of(board=board_of(6), clauses=[])
        self.assertEqual(moves(game, (0, (1, 0, 0, 2, 0, 0))), [(0, 1, (), 0), (0, 2, (), 0)])
        # The man of side 1 hops over man 0 on the field 2; behind it the field is empty.
        self.assertEqual(moves(game, (1, (0, 0, 1, 2, 0, 0))), [(3, 1, (2,), 1)])
        # There is a king on field 1, behind which the program can end, but the man can't stay there.
        self.assertEqual(moves(game, (1, (0, 3, 1, 2, 0, 0))), [])
        self.assertEqual(moves(game, (1, (0, 1, 1, 2, 0, 0))), [])

    def test_moves_of_several_men_ascend(self):
        game = game_with([(slide(0), slide(1))] * 2)
        self.assertEqual(moves(game, (0, (1, 0, 0, 3, 0, 2))), [(0, 1, (), 0), (0, 2, (), 0), (3, 4, (), 1)])
        self.assertEqual(moves(game, (1, (1, 0, 0, 3, 0, 2))), [(5, 4, (), 0)])

    def test_the_program_is_that_of_the_side_and_the_kind(self):
        programs = [(("go", 0), ("go", 1)), (("row", [("go", 0)] * 2), ("row", [("go", 1)] * 2))]
        game = game_with(programs)
        for man, turn, end in ((1, 0, 3), (2, 1, 1), (3, 0, 4), (4, 1, 0)):
            men = (0, 0, man, 0, 0, 0)
            self.assertEqual(moves(game, (turn, men)), [(2, end, (), (man - 1) // 2)])
            self.assertEqual(moves(game, (1 - turn, men)), [])

    def test_the_start_is_empty_for_the_program(self):
        game = game_of_man(("row", [("empty",), ("go", 0), ("go", 1), ("empty",), ("go", 0)]))
        self.assertEqual(moves(game, (0, (0, 1, 0, 0, 0, 0))), [(1, 2, (), 0)])
        for step in (("own",), ("foe",), ("at", 0), ("take",)):
            self.assertEqual(moves(game_of_man(("row", [step, ("go", 0)])), (0, (0, 1, 0, 0, 0, 0))), [])

    def test_where_a_man_stands_it_can_not_end(self):
        game = game_of_man(("go", 0))
        self.assertEqual(moves(game, (0, (1, 1, 2, 0, 0, 0))), [])
        self.assertEqual(moves(game, (0, (1, 2, 1, 0, 0, 0))), [(2, 3, (), 0)])

    def test_men_taken(self):
        take = ("row", [("go", 0), ("take",)])
        self.assertEqual(moves(game_of_man(take), (0, (1, 2, 0, 0, 0, 0))), [(0, 1, (1,), 0)])
        self.assertEqual(moves(game_of_man(take), (0, (1, 1, 0, 0, 0, 0))), [(0, 1, (1,), 0)])
        chain = ("row", [take, take, take, ("go", 0)])
        self.assertEqual(moves(game_of_man(chain), (0, (1, 2, 1, 2, 0, 0))), [(0, 4, (1, 2, 3), 0)])

    def test_taken_fields_ascend(self):
        back = ("row", [("go", 1), ("take",), ("go", 1), ("take",), ("go", 1)])
        self.assertEqual(moves(game_of_man(back), (1, (0, 1, 2, 2, 0, 0))), [(3, 0, (1, 2), 0)])

    def test_men_taken_without_leaving(self):
        shot = ("row", [("go", 0), ("go", 0), ("take",), ("go", 1), ("go", 1)])
        self.assertEqual(moves(game_of_man(shot), (0, (0, 1, 2, 2, 0, 0))), [(1, 1, (3,), 0)])
        self.assertEqual(after(game_of_man(shot), (0, (0, 1, 2, 2, 0, 0)), (1, 1, (3,), 0)), (1, (0, 1, 2, 0, 0, 0)))

    def test_kinds_changed(self):
        crown = ("row", [("go", 0), ("empty",), ("either", [("rest",), ("lay", 1)])])
        game = game_with([(crown, crown), (("go", 1), ("go", 1))])
        self.assertEqual(moves(game, (0, (0, 1, 0, 0, 0, 0))), [(1, 2, (), 0), (1, 2, (), 1)])
        self.assertEqual(moves(game, (0, (0, 3, 0, 0, 0, 0))), [(1, 0, (), 1)])
        stay = game_with([(("lay", 1), ("rest",)), (("lay", 1), ("rest",))])
        self.assertEqual(moves(stay, (0, (0, 1, 0, 3, 0, 0))), [(1, 1, (), 1)])

    def test_several_runs_that_give_one_move(self):
        twice = ("either", [("go", 0), ("row", [("go", 0), ("go", 0), ("go", 1)]), ("go", 0)])
        self.assertEqual(moves(game_of_man(twice), (0, (1, 0, 0, 0, 0, 0))), [(0, 1, (), 0)])
        orders = ("either", [
            ("row", [("go", 0), ("take",), ("go", 0), ("take",), ("go", 0)]),
            ("row", [("go", 0), ("go", 0), ("take",), ("go", 1), ("take",), ("go", 0), ("go", 0)]),
        ])
        self.assertEqual(moves(game_of_man(orders), (0, (1, 2, 2, 0, 0, 0))), [(0, 3, (1, 2), 0)])

    def test_moves_that_would_leave_all_men_as_they_were(self):
        for program in (("rest",), ("row", []), ("row", [("go", 0), ("go", 1)]), ("lay", 0), ("any", ("rest",))):
            self.assertEqual(moves(game_of_man(program), (0, (0, 1, 0, 2, 0, 0))), [])
        there = ("row", [("lay", 1), ("go", 0), ("go", 1), ("lay", 0)])
        game = game_with([(there, there)] * 2)
        self.assertEqual(moves(game, (0, (0, 1, 0, 0, 0, 0))), [])
        self.assertEqual(moves(game, (0, (0, 3, 0, 0, 0, 0))), [(1, 1, (), 0)])

    def test_no_men_of_the_side_to_move(self):
        game = game_of_man(slide(0))
        for position in ((0, (0,) * 6), (1, (0,) * 6), (0, (2, 0, 2, 0, 0, 0)), (1, (1, 0, 0, 0, 0, 0))):
            self.assertEqual(moves(game, position), [])

    def test_programs_that_never_end(self):
        self.assertEqual(moves(game_of_man(("either", [])), (0, (1, 0, 0, 0, 0, 0))), [])

    def test_one_field(self):
        game = game_with([(("go", 0), ("lay", 1)), (("rest",), ("rest",))], 1, [("up", [-1])])
        self.assertEqual(moves(game, (0, (1,))), [])
        self.assertEqual(moves(game, (1, (2,))), [(0, 0, (), 1)])

    def test_greatest_board(self):
        men = tuple([1] + [0] * 23)
        game = game_of_man(slide(0), 24)
        self.assertEqual(moves(game, (0, men)), [(0, end, (), 0) for end in range(1, 24)])

    def test_forms(self):
        move = moves(game_of(board=board_of(6)), (1, (0, 0, 1, 2, 0, 0)))[0]
        self.assertEqual([type(part) for part in move], [int, int, tuple, int])
        self.assertIs(type(move), tuple)

    def test_made_games(self):
        maker = Maker(6)
        many = 0
        for game in made_games(12, 200):
            for _ in range(8):
                position = maker.position(game)
                found = moves(game, position)
                many += len(found) > 1
                self.assertEqual(found, plain_moves(game, position))
        self.assertGreater(many, 100)


class AfterTest(unittest.TestCase):
    def check(self, position, move, expected):
        self.assertEqual(after(game_of(), position, move), expected)

    def test_a_step(self):
        self.check((0, (1, 0, 2, 0)), (0, 1, (), 0), (1, (0, 1, 2, 0)))
        self.check((1, (1, 0, 2, 0)), (2, 3, (), 0), (0, (1, 0, 0, 2)))

    def test_men_taken(self):
        self.check((0, (1, 2, 0, 0)), (0, 2, (1,), 0), (1, (0, 0, 1, 0)))
        self.check((0, (1, 2, 0, 0)), (0, 1, (1,), 0), (1, (0, 1, 0, 0)))
        self.check((1, (2, 1, 3, 1)), (0, 3, (1, 2, 3), 0), (0, (0, 0, 0, 2)))

    def test_a_kind_changed(self):
        self.check((0, (1, 0, 2, 0)), (0, 1, (), 1), (1, (0, 3, 2, 0)))
        self.check((1, (1, 0, 2, 0)), (2, 2, (), 1), (0, (1, 0, 4, 0)))
        self.check((1, (1, 0, 4, 0)), (2, 1, (0,), 0), (0, (0, 2, 0, 0)))

    def test_the_start_is_free_unless_it_is_the_end(self):
        self.check((0, (1, 2, 0, 0)), (0, 0, (1,), 0), (1, (1, 0, 0, 0)))


class FactsTest(unittest.TestCase):
    def test_no_move_makes_the_men_of_a_side_more(self):
        maker = Maker(7)
        many = 0
        for game in made_games(13, 300):
            for _ in range(3):
                position = maker.position(game)
                for move in moves(game, position):
                    many += 1
                    self.check(position, move, after(game, position, move))
        self.assertGreater(many, 300)

    def check(self, position, move, behind):
        turn, men = position
        start, end, taken, kind = move
        self.assertEqual(behind[0], 1 - turn)
        self.assertNotEqual(behind[1], men)
        for side in (0, 1):
            count = [len([man for man in row if man and side_of(man) == side]) for row in (men, behind[1])]
            self.assertLessEqual(count[1], count[0])
        for field in range(len(men)):
            if field == end:
                self.assertEqual(behind[1][field], man_of(turn, kind))
            elif field == start or field in taken:
                self.assertEqual(behind[1][field], 0)
            else:
                self.assertEqual(behind[1][field], men[field])
        self.assertNotIn(start, taken)


class NothingIsModifiedTest(unittest.TestCase):
    def test_calls(self):
        board = Board(4, [("east", [1, 2, 3, -1]), ("west", [-1, 0, 1, 2])])
        program = ("row", [("any", ("row", [("go", 0), ("empty",)])), ("either", [ride(), hop(), ("row", [])])])
        kept = copy.deepcopy(program)
        game = Game(board, ["man", "king"], [(("stuck",), "lost")], [(program, hop()), (ride(), program)])
        before = copy.deepcopy((board.size, board.ways, game.kinds, game.clauses, game.programs))
        position = (0, (1, 0, 2, 4))
        spots(game, 0, program, (0, position[1], 0))
        for move in moves(game, position):
            after(game, position, move)
        self.assertEqual((board.size, board.ways, game.kinds, game.clauses, game.programs), before)
        self.assertEqual((program, position), (kept, (0, (1, 0, 2, 4))))


if __name__ == "__main__":
    unittest.main()
