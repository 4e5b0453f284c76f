"""Promises 25 to 27: papers, when they are accepted, and how they are made."""

import copy
import unittest

from skewer.errors import SkewerError, TooLarge
from skewer.generator import Automaton, build_for, spells
from skewer.spelling import accepts_paper, make_paper
from tests.games import either, row
from tests.made import Maker
from tests.slow import places_of, plain_difference, plain_spells_program

A, B, C = ("go", 0), ("go", 1), ("take",)
# The built automaton has the ends 0 and 2, and the other one has a state more.
RIDE = ("any", row(A, B))
LONG = Automaton([[(A, 1)], [(B, 2)], [(A, 3)], [(B, 0)]], [0, 2])
PAPER = [([0], [0]), ([1], [1]), ([2], [2]), ([3], [1]), ([0], [2])]


def ring(number, ends=None):
    """An automaton that goes round by A through so many states."""
    return Automaton([[(A, (state + 1) % number)] for state in range(number)], range(number) if ends is None else ends)


class AcceptedTest(unittest.TestCase):
    def check(self, expected, paper, program=RIDE, automaton=LONG):
        with self.subTest(paper=paper, program=program):
            self.assertIs(accepts_paper(program, automaton, paper), expected)

    def test_accepted(self):
        self.check(True, PAPER)
        self.check(True, [([0], [0])], ("rest",), Automaton([[]], [0]))
        self.check(True, [([0], [0])], either(), Automaton([[]], []))

    def test_order_and_pairs_that_stand_twice(self):
        self.check(True, PAPER[::-1])
        self.check(True, PAPER + PAPER[1:3])

    def test_more_pairs_than_are_needed(self):
        self.check(True, PAPER + [([], [])])
        self.check(True, PAPER + [([0, 2], [0, 2]), ([1, 3], [1]), ([0, 2], [2])])
        self.check(False, PAPER + [([0, 2], [0, 2])])
        self.check(False, PAPER + [([0, 2], [0, 2]), ([1, 3], [1])])
        self.check(False, PAPER + [([0], [1])])

    def test_no_pair(self):
        self.check(False, [])
        self.check(False, [], ("rest",), Automaton([[]], [0]))

    def test_the_first_pair_is_missing(self):
        self.check(False, PAPER[1:])
        self.check(False, [([], [])])
        self.check(False, [([0, 2], [0, 2]), ([1, 3], [1]), ([0, 2], [2])])

    def test_each_pair_is_needed(self):
        for at in range(len(PAPER)):
            self.check(False, PAPER[:at] + PAPER[at + 1:])

    def test_an_end_on_one_side_only(self):
        for ends in ([0], [2], [], [0, 1, 2], [0, 1, 2, 3], [0, 2, 3]):
            self.check(False, PAPER, RIDE, Automaton(LONG.rows, ends))
        self.check(False, [([0], [0])], ("rest",), Automaton([[]], []))
        self.check(False, [([0], [0])], either(), Automaton([[]], [0]))

    def test_a_step_behind_that_leads_to_a_missing_pair(self):
        # A step that only one of the two has leads to a pair with an empty list.
        more = Automaton([[(A, 1)], [(B, 2)], [(A, 3)], [(B, 0), (A, 1)]], [0, 2])
        self.check(False, PAPER, RIDE, more)
        self.check(False, PAPER + [([1], [])], RIDE, more)
        less = Automaton([[(A, 1)], []], [0])
        self.check(False, [([0], [0]), ([1], [1])], RIDE, less)
        self.check(False, [([0], [0]), ([1], [1]), ([], [2]), ([], [1])], RIDE, less)

    def test_steps_that_lead_to_no_end_on_either_side(self):
        lost = Automaton([[(A, 1), (B, 2)], [], [(B, 2), (A, 2)]], [1])
        self.check(False, [([0], [0]), ([1], [1])], A, lost)
        self.check(True, [([0], [0]), ([1], [1]), ([2], [])], A, lost)
        self.check(True, [([0], [0]), ([1], [1])], A, Automaton([[(A, 1)], []], [1]))

    def test_all_states_to_which_a_step_leads(self):
        fork = Automaton([[(A, 2), (A, 1), (A, 2)], [(B, 3)], [(C, 3)], []], [3])
        program = row(A, either(B, C))
        self.check(True, [([0], [0]), ([1, 2], [1]), ([3], [2]), ([3], [3])], program, fork)
        self.check(False, [([0], [0]), ([1], [1]), ([2], [1]), ([3], [2]), ([3], [3])], program, fork)
        self.check(False, [([0], [0]), ([2, 1], [1]), ([3], [2]), ([3], [3])], program, fork)

    def test_lists_that_do_not_ascend(self):
        for states, places in (([1, 0], [0]), ([0, 0], [0]), ([0], [2, 0]), ([0], [0, 0]), ([3, 1], [1]),
                               ([1], [1, 1]), ([0, 2, 1], [0, 1]), ([0, 2], [0, 2, 2])):
            self.check(False, PAPER + [(states, places)])

    def test_states_and_places_that_there_are_not(self):
        for states, places in (([4], [1]), ([1], [3]), ([-1], [1]), ([1], [-1]), ([1, 4], [1]), ([3], [-1, 1]),
                               ([99], []), ([], [99]), ([-2, -1], [-1]), ([1], [1, 3, 99])):
            self.check(False, PAPER + [(states, places)])
            self.check(False, [(states, places)] + PAPER)

    def test_pairs_may_be_lists(self):
        self.check(True, [[states, places] for states, places in PAPER])

    def test_equal_steps_at_different_places(self):
        program = either(row(A, B), row(A, C))
        automaton = Automaton([[(A, 1)], [(B, 2), (C, 2)], []], [2])
        self.check(True, [([0], [0]), ([1], [1, 3]), ([2], [2]), ([2], [4])], program, automaton)
        self.check(False, [([0], [0]), ([1], [1]), ([1], [3]), ([2], [2]), ([2], [4])], program, automaton)

    def test_whoever_made_it(self):
        """Of papers that are made at random, none is accepted where the two part."""
        maker = Maker(26)
        count = 0
        for _ in range(3000):
            program = maker.program(1, 1, 2)
            states = 1 + maker.below(2)
            steps = places_of(program) + [A]
            rows = [[(maker.one_of(steps), maker.below(states)) for _ in range(maker.below(3))] for _ in range(states)]
            automaton = Automaton(rows, [state for state in range(states) if maker.below(2) == 0])
            places = len(places_of(program)) + 1
            paper = [([0], [0])] + [([one for one in range(states) if maker.below(2)],
                                     [one for one in range(places) if maker.below(2)]) for _ in range(maker.below(9))]
            if accepts_paper(program, automaton, paper):
                count += len(paper) > 1
                self.assertIsNone(plain_difference(program, automaton, 4))
        self.assertGreater(count, 20)

    def test_nothing_is_modified(self):
        paper, program = copy.deepcopy(PAPER), copy.deepcopy(RIDE)
        rows = copy.deepcopy(LONG.rows)
        accepts_paper(program, LONG, paper)
        make_paper(program, LONG)
        make_paper(A, LONG)
        self.assertEqual((paper, program, LONG.rows, LONG.ends), (PAPER, RIDE, rows, [0, 2]))


class MadeTest(unittest.TestCase):
    def test_pairs_in_their_order(self):
        self.assertEqual(make_paper(RIDE, LONG), ("paper", PAPER))
        fork = Automaton([[(C, 3), (B, 2), (A, 1)], [(C, 3)], [(A, 1)], []], [3])
        program = either(C, row(A, C), row(B, A, C))
        expected = [([0], [0]), ([1], [2]), ([2], [4]), ([3], [1]), ([3], [3]), ([1], [5]), ([3], [6])]
        self.assertEqual(make_paper(program, fork), ("paper", expected))

    def test_steps_in_ascending_order(self):
        steps = [("take",), ("own",), ("lay", 1), ("lay", 0), ("go", 1), ("go", 0), ("foe",), ("empty",), ("at", 1),
                 ("at", 0)]
        program = either(*steps)
        found = make_paper(program, build_for(program))
        self.assertEqual(found, ("paper", [([place], [place]) for place in range(11)][:1]
                                 + [([place], [place]) for place in range(10, 0, -1)]))

    def test_for_the_built_automaton(self):
        for program in (A, ("rest",), row(), either(), RIDE, either(row(A, B), row(A, C)), row(A, either())):
            verdict, pairs = make_paper(program, build_for(program))
            self.assertEqual(verdict, "paper")
            self.assertTrue(all(states == places for states, places in pairs))
            self.assertIs(accepts_paper(program, build_for(program), pairs), True)

    def test_forms_of_the_parts(self):
        found = make_paper(RIDE, LONG)
        self.assertEqual((type(found), type(found[1]), {type(pair) for pair in found[1]}), (tuple, list, {tuple}))
        self.assertEqual({type(one) for pair in found[1] for one in pair}, {list})
        self.assertEqual(type(make_paper(A, LONG)[1]), list)

    def test_least_of_the_shortest_rows(self):
        cases = [
            (A, row(A, B), [A]),
            (row(A, B), A, [A]),
            (A, B, [A]),
            (B, A, [A]),
            (row(B, B), row(A, A), [A, A]),
            (("any", A), either(A, ("rest",)), [A, A]),
            (("any", either(A, B)), either(("rest",), A, B, row(A, A), row(B, A), row(B, B)), [A, B]),
            (("any", either(A, B)), either(("rest",), A, B, row(A, A), row(A, B), row(B, B)), [B, A]),
            (either(A, row(B, B)), either(row(B, B), row(A, A)), [A]),
            (row(C, C), row(C, either(C, ("empty",))), [C, ("empty",)]),
            (("lay", 0), ("lay", 1), [("lay", 0)]),
            (("at", 1), ("at", 0), [("at", 0)]),
            (either(), row(A, ("any", B)), [A]),
        ]
        for program, other, expected in cases:
            with self.subTest(program=program, other=other):
                self.assertEqual(make_paper(program, build_for(other)), ("differ", expected))

    def test_the_empty_row(self):
        for program, other in ((("rest",), A), (A, ("any", A)), (either(), row()), (RIDE, row(A, B))):
            self.assertEqual(make_paper(program, build_for(other)), ("differ", []))

    def test_equal_rows_written_otherwise(self):
        for program, other in ((("any", A), either(("rest",), row(A, ("any", A)))), (row(A, either()), either()),
                               (either(row(A, B), row(A, C)), row(A, either(C, B))),
                               (("any", either(A, B)), ("any", row(("any", A), ("any", B)))),
                               (row(A, ("any", row(B, A))), row(("any", row(A, B)), A))):
            with self.subTest(program=program, other=other):
                verdict, pairs = make_paper(program, build_for(other))
                self.assertEqual(verdict, "paper")
                self.assertIs(accepts_paper(program, build_for(other), pairs), True)
                self.assertEqual(pairs[0], ([0], [0]))

    def test_500_and_501_pairs(self):
        verdict, pairs = make_paper(("any", A), ring(499))
        self.assertEqual((verdict, len(pairs)), ("paper", 500))
        self.assertIs(accepts_paper(("any", A), ring(499), pairs), True)
        with self.assertRaises(TooLarge) as caught:
            make_paper(("any", A), ring(500))
        self.assertEqual(caught.exception.limit, "pairs")
        self.assertIsInstance(caught.exception, SkewerError)

    def test_a_long_paper_can_still_be_accepted(self):
        pairs = [([0], [0])] + [([state % 600], [1]) for state in range(1, 601)]
        self.assertIs(accepts_paper(("any", A), ring(600), pairs), True)
        self.assertIs(accepts_paper(("any", A), ring(600), pairs[:-1]), False)

    def test_a_difference_behind_many_pairs(self):
        """Of 500 pairs the last one is that at which the two part."""
        self.assertEqual(make_paper(("any", A), ring(600, list(range(499)))), ("differ", [A] * 499))
        self.assertEqual(make_paper(("any", A), ring(499, list(range(498)))), ("differ", [A] * 498))

    def test_made_programs(self):
        maker = Maker(27)
        count = {"paper": 0, "differ": 0}
        for _ in range(2500):
            program, other = maker.program(1, 1, 3), maker.program(1, 1, 3)
            if maker.below(3) == 0:
                other = maker.one_of((row(program, either(program, ("rest",))), either(program, other)))
            if len(set(places_of(program)) | set(places_of(other))) <= 3:
                automaton = build_for(other)
                verdict, told = make_paper(program, automaton)
                count[verdict] += 1
                expected = plain_difference(program, automaton, 5)
                if verdict == "paper":
                    self.assertIsNone(expected)
                    self.assertIs(accepts_paper(program, automaton, told), True)
                elif len(told) <= 5:
                    self.assertEqual(told, expected)
                else:
                    self.assertIsNone(expected)
                    self.assertIsNot(spells(automaton, told), plain_spells_program(program, told))
        self.assertGreater(min(count.values()), 100)


if __name__ == "__main__":
    unittest.main()
