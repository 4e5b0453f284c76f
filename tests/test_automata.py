"""Promises 20 to 23: steps and places, automata, when one fits a game, and the built automaton."""

import copy
import unittest

from skewer.generator import Automaton, build, build_for, fits, spells, steps_of
from skewer.syntax import Board, Game
from tests.games import either, game_of, parts_of, row
from tests.made import Maker
from tests.slow import places_of, plain_build, plain_spells, plain_spells_program

A, B, C = ("go", 0), ("go", 1), ("take",)
STEPS = (("go", 1), ("empty",), ("own",), ("foe",), ("at", 1), ("take",), ("lay", 0))
NOTHING = either()


class StepsTest(unittest.TestCase):
    def test_each_form_of_step(self):
        for step in STEPS:
            self.assertEqual(steps_of(step), [step])

    def test_rest_is_no_step(self):
        self.assertEqual(steps_of(("rest",)), [])
        self.assertEqual(steps_of(row(("rest",), A, ("rest",))), [A])

    def test_empty_row_and_either(self):
        self.assertEqual(steps_of(row()), [])
        self.assertEqual(steps_of(NOTHING), [])
        self.assertEqual(steps_of(("any", row(NOTHING, row()))), [])

    def test_reading_order(self):
        self.assertEqual(steps_of(row(*STEPS)), list(STEPS))
        self.assertEqual(steps_of(either(*reversed(STEPS))), list(reversed(STEPS)))
        program = row(A, either(B, row(C, ("any", ("own",)))), ("any", row(("foe",), A)), ("empty",))
        self.assertEqual(steps_of(program), [A, B, C, ("own",), ("foe",), A, ("empty",)])

    def test_equal_steps_and_parts_that_spell_nothing_have_places(self):
        self.assertEqual(steps_of(row(A, A, either(A, A))), [A] * 4)
        self.assertEqual(steps_of(row(A, NOTHING, B)), [A, B])

    def test_made_programs(self):
        maker = Maker(20)
        for _ in range(200):
            program = maker.program(2, 2, 5)
            self.assertEqual(steps_of(program), places_of(program))

    def test_the_list_is_new(self):
        program = row(A, B)
        steps_of(program).append(C)
        self.assertEqual(program, ("row", [A, B]))


class AutomatonTest(unittest.TestCase):
    def test_lists_are_copied(self):
        rows, ends = [[(A, 1)], []], [1]
        automaton = Automaton(rows, ends)
        rows[0].append((B, 0))
        rows.append([])
        ends.append(2)
        self.assertEqual((automaton.rows, automaton.ends), ([[(A, 1)], []], [1]))


class FitsTest(unittest.TestCase):
    def check(self, expected, rows, ends):
        with self.subTest(rows=rows, ends=ends):
            self.assertIs(fits(game_of(), Automaton(rows, ends)), expected)

    def test_no_state(self):
        self.check(False, [], [])
        self.check(False, [], [0])

    def test_automata_that_fit(self):
        self.check(True, [[]], [])
        self.check(True, [[]], [0])
        self.check(True, [[(step, 1) for step in STEPS], [(A, 0), (A, 1), (A, 0)], []], [0, 1, 2])
        self.check(True, [[(B, 2)], [], [(("at", 0), 0), (("lay", 1), 2)]], [0, 2])

    def test_states_that_there_are_not(self):
        for state in (2, 3, 99, -1, -2):
            self.check(False, [[(A, 1), (A, state)], []], [1])
            self.check(False, [[(A, 1)], [(B, state), (A, 0)]], [1])
            self.check(False, [[(A, 1)], []], sorted([1, state]))
            self.check(False, [[(A, 1)], []], [state])

    def test_ends_that_do_not_ascend(self):
        rows = [[(A, 1)], [(A, 2)], []]
        for ends in ([1, 0], [0, 2, 1], [2, 1, 0], [0, 0], [1, 1], [0, 1, 1], [0, 0, 2], [2, 2, 2]):
            self.check(False, rows, ends)
        for ends in ([], [0], [2], [0, 1], [0, 2], [1, 2], [0, 1, 2]):
            self.check(True, rows, ends)

    def test_ways_and_kinds_that_there_are_not(self):
        for step in (("go", 2), ("go", -1), ("go", 99), ("at", 2), ("at", -1), ("lay", 2), ("lay", -1), ("lay", 99)):
            self.check(False, [[(step, 0)]], [0])
            self.check(False, [[(A, 1)], [(B, 0), (step, 1), (A, 0)]], [0])

    def test_the_game_tells_the_ways_and_kinds(self):
        small = Game(Board(1, [("east", [-1])]), ["man"], [], [(A, A)])
        for step, expected in ((("go", 0), True), (("go", 1), False), (("at", 0), True), (("at", 1), False),
                               (("lay", 1), False), (("own",), True)):
            self.assertIs(fits(small, Automaton([[(step, 0)]], [])), expected)

    def test_built_ones_fit(self):
        maker = Maker(22)
        for _ in range(100):
            self.assertIs(fits(game_of(), build_for(maker.program(2, 2, 5))), True)


class SpellsTest(unittest.TestCase):
    def test_empty_row(self):
        self.assertIs(spells(Automaton([[(A, 1)], []], [1]), []), False)
        self.assertIs(spells(Automaton([[(A, 1)], []], [0]), []), True)
        self.assertIs(spells(Automaton([[]], []), []), False)

    def test_several_pairs_for_one_step(self):
        automaton = Automaton([[(A, 1), (A, 2)], [(B, 3)], [(C, 3), (A, 2)], []], [3])
        for steps in ([A, B], [A, C], [A, A, C], [A, A, A, C]):
            self.assertIs(spells(automaton, steps), True)
        for steps in ([], [A], [B], [A, A], [A, A, B], [A, B, C], [A, C, C], [C]):
            self.assertIs(spells(automaton, steps), False)

    def test_the_same_pair_twice(self):
        automaton = Automaton([[(A, 1), (A, 1)], []], [1])
        self.assertIs(spells(automaton, [A]), True)
        self.assertIs(spells(automaton, [A, A]), False)

    def test_rows_that_lead_nowhere(self):
        automaton = Automaton([[(A, 1), (A, 0)], []], [1])
        for steps in ([B], [A, B], [A, B, A], [("go", 9)], [("at", 0)]):
            self.assertIs(spells(automaton, steps), False)
        self.assertIs(spells(automaton, [A, A, A]), True)

    def test_steps_are_compared_whole(self):
        automaton = Automaton([[(("at", 0), 1)], []], [1])
        for step, expected in ((("at", 0), True), (("at", 1), False), (("lay", 0), False), (("go", 0), False)):
            self.assertIs(spells(automaton, [step]), expected)

    def test_automata_that_do_not_fit(self):
        """There is no way from a state that there is not, nor to one."""
        self.assertIs(spells(Automaton([], [0]), []), False)
        self.assertIs(spells(Automaton([[(A, 5), (A, 0), (B, -1)]], [0, 5]), [A, A]), True)
        self.assertIs(spells(Automaton([[(A, 5), (B, -1)]], [-1, 0, 5]), [A]), False)
        self.assertIs(spells(Automaton([[(A, 5), (B, -1)]], [-1, 0, 5]), [B]), False)

    def test_made_automata(self):
        maker = Maker(23)
        count = 0
        for _ in range(300):
            number = 1 + maker.below(4)
            rows = [[(maker.one_of((A, B)), maker.below(number)) for _ in range(maker.below(4))] for _ in range(number)]
            automaton = Automaton(rows, [state for state in range(number) if maker.below(2) == 0])
            steps = [maker.one_of((A, B)) for _ in range(maker.below(5))]
            expected = plain_spells(automaton, steps)
            count += expected
            self.assertIs(spells(automaton, steps), expected)
        self.assertGreater(count, 50)

    def test_nothing_is_modified(self):
        rows, steps = [[(A, 1), (A, 0)], [(B, 0)]], [A, A, B]
        automaton = Automaton(rows, [1])
        game = game_of()
        told = parts_of(game)
        spells(automaton, steps)
        fits(game, automaton)
        self.assertEqual((automaton.rows, automaton.ends, steps), ([[(A, 1), (A, 0)], [(B, 0)]], [1], [A, A, B]))
        self.assertEqual(parts_of(game), told)


class BuildTest(unittest.TestCase):
    def check(self, program, rows, ends):
        """The rows are told as the places to which the pairs lead."""
        steps = places_of(program)
        with self.subTest(program=program):
            automaton = build_for(program)
            self.assertIsInstance(automaton, Automaton)
            self.assertEqual(automaton.rows, [[(steps[place - 1], place) for place in places] for places in rows])
            self.assertEqual(automaton.ends, ends)

    def test_steps(self):
        for step in STEPS:
            self.check(step, [[1], []], [1])

    def test_rest_and_empty_row(self):
        self.check(("rest",), [[]], [0])
        self.check(row(), [[]], [0])
        self.check(row(("rest",), row()), [[]], [0])
        self.check(row(A, row(), B), [[1], [2], []], [2])

    def test_row(self):
        self.check(row(A), [[1], []], [1])
        self.check(row(A, B, C), [[1], [2], [3], []], [3])
        self.check(row(row(A, B), row(C)), [[1], [2], [3], []], [3])

    def test_row_with_parts_that_can_be_left_out(self):
        a, b, c = [either(step, ("rest",)) for step in (A, B, C)]
        self.check(row(a, b, c), [[1, 2, 3], [2, 3], [3], []], [0, 1, 2, 3])
        self.check(row(a, B, c), [[1, 2], [2], [3], []], [2, 3])
        self.check(row(A, b, C), [[1], [2, 3], [3], []], [3])

    def test_either(self):
        self.check(either(A), [[1], []], [1])
        self.check(either(A, B, C), [[1, 2, 3], [], [], []], [1, 2, 3])
        self.check(either(A, ("rest",)), [[1], []], [0, 1])
        self.check(either(row(A, B), C), [[1, 3], [2], [], []], [2, 3])

    def test_any(self):
        self.check(("any", A), [[1], [1]], [0, 1])
        self.check(("any", row(A, B)), [[1], [2], [1]], [0, 2])
        self.check(("any", either(A, B)), [[1, 2], [1, 2], [1, 2]], [0, 1, 2])
        self.check(("any", ("rest",)), [[]], [0])

    def test_any_within_any(self):
        self.check(("any", ("any", A)), [[1], [1]], [0, 1])
        self.check(("any", row(("any", A), B)), [[1, 2], [1, 2], [1, 2]], [0, 2])
        self.check(("any", row(("any", A), ("any", B))), [[1, 2], [1, 2], [1, 2]], [0, 1, 2])
        self.check(("any", ("any", ("any", row(A, B)))), [[1], [2], [1]], [0, 2])

    def test_any_behind_and_beside(self):
        self.check(row(("any", A), B), [[1, 2], [1, 2], []], [2])
        self.check(row(A, ("any", B)), [[1], [2], [2]], [1, 2])
        self.check(row(("any", A), ("any", B)), [[1, 2], [1, 2], [2]], [0, 1, 2])
        self.check(either(("any", A), B), [[1, 2], [1], []], [0, 1, 2])

    def test_equal_steps_at_different_places(self):
        self.check(row(A, A), [[1], [2], []], [2])
        self.check(either(A, A), [[1, 2], [], []], [1, 2])
        self.check(row(either(A, row(A, B)), A), [[1, 2], [4], [3], [4], []], [4])
        self.check(("any", row(A, A)), [[1], [2], [1]], [0, 2])

    def test_one_program_that_stands_twice(self):
        part = row(A, B)
        self.check(row(part, part), [[1], [2], [3], [4], []], [4])

    def test_nothing(self):
        self.check(NOTHING, [[]], [])
        self.check(either(NOTHING, NOTHING), [[]], [])

    def test_nothing_in_a_row(self):
        self.check(row(A, NOTHING), [[], []], [])
        self.check(row(NOTHING, A), [[], []], [])
        self.check(row(A, B, NOTHING, C), [[], [], [], []], [])
        self.check(row(("any", A), NOTHING), [[], []], [])
        self.check(row(row(A, B), row(C, NOTHING)), [[], [], [], []], [])

    def test_nothing_beside_others(self):
        self.check(either(NOTHING, A), [[1], []], [1])
        self.check(either(row(A, B, NOTHING), C), [[3], [], [], []], [3])
        self.check(either(row(A, NOTHING), row(B, C), NOTHING), [[2], [], [3], []], [3])
        self.check(row(either(row(A, NOTHING), B), C), [[2], [], [3], []], [3])

    def test_nothing_inside_any(self):
        self.check(("any", NOTHING), [[]], [0])
        self.check(("any", row(A, NOTHING)), [[], []], [0])
        self.check(row(A, ("any", row(B, NOTHING)), C), [[1], [3], [], []], [3])
        self.check(("any", either(row(A, NOTHING), B)), [[2], [], [2]], [0, 2])

    def test_made_programs(self):
        """All that is told of the places, from the rows that a slow reading spells."""
        maker = Maker(24)
        count = 0
        for _ in range(4000):
            program = maker.program(2, 2, 4)
            if 2 <= len(places_of(program)) <= 3:
                automaton = build_for(program)
                count += 1
                self.assertEqual((automaton.rows, automaton.ends), plain_build(program))
        self.assertGreater(count, 500)

    def test_rows_that_made_programs_spell(self):
        maker = Maker(25)
        count = 0
        for _ in range(1000):
            program = maker.program(1, 1, 6)
            automaton = build_for(program)
            steps = places_of(program)
            tried = [[maker.one_of(steps) for _ in range(maker.below(6))] for _ in range(3)] if steps else [[]]
            tried.append(self.walk(automaton, maker))
            for one in tried:
                expected = plain_spells_program(program, one)
                count += expected
                self.assertIs(spells(automaton, one), expected)
        self.assertGreater(count, 500)

    def walk(self, automaton, maker):
        """Some row that leads to a state of the automaton."""
        state, steps = 0, []
        while automaton.rows[state] and maker.below(8) != 0:
            step, state = maker.one_of(automaton.rows[state])
            steps.append(step)
        return steps

    def test_greatest_program(self):
        program = ("any", either(*[row(A, B, C)] * 14))
        automaton = build_for(program)
        self.assertEqual(len(automaton.rows), 43)
        self.assertEqual([place for _, place in automaton.rows[3]], list(range(1, 43, 3)))
        self.assertEqual(automaton.ends, [0] + list(range(3, 43, 3)))

    def test_build_takes_the_program_of_the_kind_and_side(self):
        programs = [(A, B), (C, row(A, B))]
        game = game_of(programs=programs)
        for kind in (0, 1):
            for side in (0, 1):
                automaton, expected = build(game, kind, side), build_for(programs[kind][side])
                self.assertEqual((automaton.rows, automaton.ends), (expected.rows, expected.ends))

    def test_the_program_is_not_modified(self):
        program = row(A, ("any", either(B, row(C, NOTHING))))
        told = copy.deepcopy(program)
        automaton = build_for(program)
        automaton.rows[0].append("more")
        self.assertEqual(program, told)
        self.assertEqual(build_for(program).rows[0], [(A, 1)])


if __name__ == "__main__":
    unittest.main()
