"""Promise 24: the moves of a man by an automaton."""

import unittest

from skewer.generator import Automaton, build, build_for, moves_by_automata, moves_from
from skewer.runs import moves
from tests.games import board_of, capture, either, game_of, parts_of, ride, ring_of, row, step_to, walk
from tests.made import Maker, made_games

EAST, WEST, EMPTY, TAKE = ("go", 0), ("go", 1), ("empty",), ("take",)


def game_of_man(program, size=6, ways=None):
    return game_of(board=board_of(size, ways), kinds=["man"], clauses=[], programs=[(program, program)])


def moves_of(game, position, field):
    return [move for move in moves(game, position) if move[0] == field]


class MovesFromTest(unittest.TestCase):
    def check(self, program, position, field):
        """The moves by the built automaton, which must be those of the interpreter."""
        game = game_of_man(program)
        found = moves_from(game, position, field, build_for(program))
        self.assertEqual(found, moves_of(game, position, field))
        return found

    def test_forms_of_programs(self):
        position = (0, (0, 1, 0, 0, 2, 0))
        self.assertEqual(self.check(step_to(0), position, 1), [(1, 2, (), 0)])
        self.assertEqual(self.check(either(EAST, WEST), position, 1), [(1, 0, (), 0), (1, 2, (), 0)])
        self.assertEqual(self.check(ride(), position, 1), [(1, 2, (), 0), (1, 3, (), 0)])
        self.assertEqual(self.check(("rest",), position, 1), [])
        self.assertEqual(self.check(either(), position, 1), [])
        self.assertEqual(self.check(row(ride(), capture(0)), position, 1), [(1, 4, (4,), 0)])

    def test_ends_where_a_man_stands(self):
        self.assertEqual(self.check(("any", EAST), (0, (1, 2, 0, 1, 0, 0)), 0),
                         [(0, 2, (), 0), (0, 4, (), 0), (0, 5, (), 0)])

    def test_all_men_as_they_were(self):
        self.assertEqual(self.check(("any", either(EAST, WEST)), (0, (0, 1, 2, 2, 2, 2)), 1), [(1, 0, (), 0)])

    def test_one_spot_by_several_states(self):
        program = either(EAST, row(EAST, EAST, WEST), EAST)
        self.assertEqual(self.check(program, (0, (1, 0, 0, 0, 0, 0)), 0), [(0, 1, (), 0)])

    def test_kinds_and_several_men_taken(self):
        program = row(("any", capture(0)), either(("rest",), ("lay", 1)), EAST)
        game = game_of(board=board_of(6), clauses=[], programs=[(program, program)] * 2)
        found = moves_from(game, (0, (3, 2, 4, 0, 0, 0)), 0, build(game, 1, 0))
        # Behind the first man it would end where the second one stands.
        self.assertEqual(found, [(0, 3, (1, 2), 1)])
        found = moves_from(game, (0, (1, 2, 4, 0, 0, 0)), 0, build(game, 0, 0))
        self.assertEqual(found, [(0, 3, (1, 2), 0), (0, 3, (1, 2), 1)])

    def test_situations_that_come_back(self):
        roam = ("any", either(EAST, row(EAST, TAKE), ("any", row(EMPTY, EAST))))
        game = ring_of(5, [(roam, roam)])
        position = (0, (1, 0, 2, 0, 2))
        found = moves_from(game, position, 0, build_for(roam))
        self.assertEqual(found, moves(game, position))
        self.assertIn((0, 0, (2, 4), 0), found)
        self.assertIn((0, 3, (), 0), found)

    def test_a_way_round_to_the_beginning(self):
        shot = row(("any", EAST), ("any", row(("foe",), TAKE)), ("any", EAST))
        game = ring_of(4, [(shot, shot)])
        position = (1, (1, 0, 2, 0))
        self.assertEqual(moves_from(game, position, 2, build_for(shot)), moves(game, position))
        self.assertIn((2, 2, (0,), 0), moves(game, position))
        self.assertNotIn((2, 2, (), 0), moves(game, position))

    def test_another_automaton_that_spells_the_same(self):
        first = build_for(("any", row(EAST, EMPTY)))
        # The same rows with one state more, pairs twice, and a state to which no way leads.
        second = Automaton([[(EAST, 1), (EAST, 1)], [(EMPTY, 2)], [(EAST, 3), (EAST, 1)], [(EMPTY, 0)], [(EAST, 0)]],
                           [0, 2])
        game = game_of_man(ride())
        maker = Maker(31)
        count = 0
        for _ in range(200):
            position = maker.position(game)
            for field, man in enumerate(position[1]):
                if man == 1 + position[0]:
                    expected = moves_of(game, position, field)
                    count += len(expected)
                    self.assertEqual(moves_from(game, position, field, first), expected)
                    self.assertEqual(moves_from(game, position, field, second), expected)
        self.assertGreater(count, 100)

    def test_an_automaton_that_spells_something_else(self):
        """The moves are those by the automaton, not those of the game."""
        game = game_of_man(step_to(0))
        position = (0, (0, 0, 1, 0, 2, 0))
        self.assertEqual(moves_from(game, position, 2, build_for(WEST)), [(2, 1, (), 0)])
        self.assertEqual(moves_from(game, position, 2, Automaton([[(EAST, 1)], []], [])), [])
        self.assertEqual(moves_from(game, position, 2, Automaton([[(EAST, 1), (WEST, 2)], [], []], [2])),
                         [(2, 1, (), 0)])
        self.assertEqual(moves_from(game, position, 2, Automaton([[(EAST, 0), (WEST, 0)]], [0])),
                         [(2, 0, (), 0), (2, 1, (), 0), (2, 3, (), 0), (2, 5, (), 0)])

    def test_automata_that_do_not_fit(self):
        """A pair to a state that there is not, or by a way that there is not, leads on to nothing."""
        game = game_of_man(step_to(0))
        position = (0, (0, 0, 1, 0, 2, 0))
        self.assertEqual(moves_from(game, position, 2, Automaton([], [])), [])
        for pair in ((EAST, 2), (EAST, -1), (("go", 2), 1), (("go", -1), 1)):
            self.assertEqual(moves_from(game, position, 2, Automaton([[pair, (WEST, 1)], []], [1])), [(2, 1, (), 0)])

    def test_nothing_is_modified(self):
        game = game_of_man(ride())
        automaton = build_for(ride())
        told = parts_of(game)
        rows = [list(pairs) for pairs in automaton.rows]
        moves_from(game, (0, (1, 0, 2, 0, 0, 0)), 0, automaton).append("more")
        moves_by_automata(game, (0, (1, 0, 2, 0, 0, 0))).append("more")
        self.assertEqual((parts_of(game), automaton.rows, automaton.ends), (told, rows, [0, 2]))


class AllMovesTest(unittest.TestCase):
    def test_several_men_and_kinds(self):
        game = ring_of(6, [(walk(0), walk(1)), (walk(0, 1), ride())])
        position = (0, (1, 0, 3, 0, 2, 4))
        expected = [(0, 1, (), 0), (2, 1, (), 1), (2, 3, (), 1)]
        self.assertEqual(moves_by_automata(game, position), expected)
        self.assertEqual(moves_by_automata(game, (1, position[1])), moves(game, (1, position[1])))

    def test_no_men_of_the_side(self):
        game = ring_of(4, [(walk(0), walk(1))])
        self.assertEqual(moves_by_automata(game, (0, (0, 2, 0, 2))), [])
        self.assertEqual(moves_by_automata(game, (1, (0, 0, 0, 0))), [])

    def test_clauses_do_not_matter(self):
        game = ring_of(4, [(walk(0), walk(1))], [(("few", 9), "drawn")])
        self.assertEqual(moves_by_automata(game, (0, (1, 0, 0, 0))), [(0, 1, (), 0)])

    def test_made_games(self):
        maker = Maker(32)
        count = 0
        for game in made_games(33, 400):
            for _ in range(4):
                position = maker.position(game)
                expected = moves(game, position)
                count += len(expected) > 1
                self.assertEqual(moves_by_automata(game, position), expected)
                for field, man in enumerate(position[1]):
                    if man != 0 and (man - 1) % 2 == position[0]:
                        automaton = build(game, (man - 1) // 2, position[0])
                        found = moves_from(game, position, field, automaton)
                        self.assertEqual(found, [move for move in expected if move[0] == field])
        self.assertGreater(count, 150)


if __name__ == "__main__":
    unittest.main()
