"""Promises 42 to 44: classes, the parts of a list of positions, and books that are accepted behind an earlier one."""

import copy
import unittest

from skewer.book import next_positions, reachable, solve
from skewer.errors import TooLarge
from skewer.judge import judge_book
from skewer.parts import class_of, classes, judge_part, solve_part, solve_parts
from skewer.syntax import Board, Game
from tests.games import either, parts_of, ring_of, step_to, walk
from tests.made import Maker, made_games, small_rings
from tests.slow import plain_book

HUNT = (0, (1, 1, 0, 2, 0, 0))
NO_VALUES = (("won",), ("drawn", 0), ("won", -1), ("even",), ("", 0))


def hunt(clauses=None):
    """Two men of side 0 hunt one of side 1 on a ring of six fields."""
    return ring_of(6, [(walk(0, 1), walk(0, 1))], clauses)


def changed(book, position, value):
    return {one: value if one == position else book[one] for one in book}


def without(book, position):
    return {one: book[one] for one in book if one != position}


def together(books):
    whole = {}
    for book in books:
        whole.update(book)
    return whole


class ClassTest(unittest.TestCase):
    def test_class_of(self):
        for men, expected in (((1, 0, 2), (1, 1)), ((1, 1, 0), (2, 0)), ((0, 0, 0), (0, 0)), ((), (0, 0)),
                              ((2, 4, 6), (0, 3)), ((1, 3, 5), (3, 0)), ((1, 2, 3, 4, 0, 12), (2, 3)), ((11,), (1, 0))):
            for turn in (0, 1):
                self.assertEqual(class_of((turn, men)), expected)

    def test_no_move_makes_a_number_greater(self):
        maker = Maker(42)
        for game in made_games(45, 150) + small_rings(maker, 50):
            position = maker.position(game)
            for later in next_positions(game, position):
                self.assertTrue(all(new <= old for new, old in zip(class_of(later), class_of(position))))


class ClassesTest(unittest.TestCase):
    def test_none(self):
        self.assertEqual(classes(hunt(), []), [])

    def test_one(self):
        self.assertEqual(classes(ring_of(6, [(step_to(0), step_to(1))]), [HUNT]), [(2, 1)])

    def test_by_sums_and_then_by_the_first(self):
        self.assertEqual(classes(hunt(), [HUNT]), [(0, 1), (1, 0), (1, 1), (2, 0), (2, 1)])
        game = ring_of(5, [(walk(0, 1), walk(0, 1))])
        found = classes(game, [(0, (1, 1, 2, 2, 0)), (1, (1, 2, 0, 0, 0)), (0, (0,) * 5)])
        self.assertEqual(found, sorted(found, key=lambda pair: (sum(pair), pair[0])))
        self.assertEqual(found, [(0, 0), (0, 1), (1, 0), (0, 2), (1, 1), (2, 0), (1, 2), (2, 1), (2, 2)])

    def test_positions_that_are_over(self):
        self.assertEqual(classes(hunt([(("few", 3), "drawn")]), [HUNT, (1, (0, 2, 2, 2, 2, 2))]), [(2, 1), (0, 5)])

    def test_too_many(self):
        game = ring_of(24, [(walk(0, 1), walk(0, 1))])
        for call in (classes, solve_parts):
            with self.assertRaises(TooLarge) as caught:
                call(game, [(0, (1, 0, 0, 0, 1, 0, 2, 0) + (0,) * 12 + (2, 0, 0, 0))])
            self.assertEqual(caught.exception.limit, "positions")


class SolvePartsTest(unittest.TestCase):
    def test_no_positions(self):
        self.assertEqual(solve_parts(hunt(), []), [])

    def test_parts_of_a_hunt(self):
        parts = solve_parts(hunt(), [HUNT])
        self.assertEqual([pair for pair, _ in parts], [(0, 1), (1, 0), (1, 1), (2, 0), (2, 1)])
        self.assertEqual((type(parts), {type(part) for part in parts}), (list, {tuple}))
        for pair, book in parts:
            self.assertEqual({class_of(position) for position in book}, {pair})
        book = solve(hunt(), [HUNT])
        self.assertEqual(together(part for _, part in parts), book)
        self.assertEqual(sum(len(part) for _, part in parts), len(book))

    def test_all_parts_together(self):
        maker = Maker(46)
        several = 0
        for game in made_games(46, 200) + small_rings(maker, 150):
            roots = [maker.position(game) for _ in range(maker.below(3))]
            parts = solve_parts(game, roots)
            several += len(parts) > 2
            self.assertEqual([pair for pair, _ in parts], classes(game, roots))
            self.assertEqual(together(part for _, part in parts), plain_book(game, roots))
            for pair, book in parts:
                self.assertEqual({class_of(position) for position in book}, {pair})
        self.assertGreater(several, 20)

    def test_a_part_needs_the_earlier_ones_alone(self):
        maker = Maker(47)
        for game in small_rings(maker, 60):
            known = {}
            for _, book in solve_parts(game, [maker.position(game)]):
                self.assertEqual(solve_part(game, known, sorted(book)), book)
                self.assertIsNone(judge_part(game, known, book))
                known.update(book)
            self.assertIsNone(judge_book(game, known))


class SolvePartTest(unittest.TestCase):
    def setUp(self):
        self.game = hunt()
        self.parts = solve_parts(self.game, [HUNT])
        self.whole = solve(self.game, [HUNT])

    def test_no_positions(self):
        self.assertEqual(solve_part(self.game, {}, []), {})
        self.assertEqual(solve_part(self.game, self.whole, []), {})

    def test_only_the_positions_of_the_list(self):
        for _, book in self.parts:
            self.assertEqual(solve_part(self.game, self.whole, list(book)), book)

    def test_in_any_order(self):
        book = self.parts[4][1]
        known = together(part for _, part in self.parts[:4])
        self.assertEqual(solve_part(self.game, known, sorted(book, reverse=True)), book)

    def test_a_known_book_that_has_more(self):
        # There are positions of no use, of other classes, and those of the list itself.
        roots = [HUNT, (0, (1, 2, 1, 2, 0, 0)), (1, (0,) * 6)]
        known = solve(self.game, roots)
        self.assertGreater(len(known), len(self.whole))
        for _, book in self.parts:
            self.assertEqual(solve_part(self.game, known, list(book)), book)

    def test_single_positions(self):
        """All next positions of any position are in the known book, also those of its own class."""
        for position in self.whole:
            known = without(self.whole, position)
            self.assertEqual(solve_part(self.game, known, [position]), {position: self.whole[position]})

    def test_values_of_known_positions_in_any_order_of_numbers(self):
        """A field leads to others, whose values the known book tells."""
        board = Board(5, [("a", [1, 2, 2, 3, 4]), ("b", [3, 3, 4, 4, 4])])
        game = Game(board, ["man"], [], [(either(("go", 0), ("go", 1)), ("rest",))])
        start, first, second = (0, (1, 0, 0, 0, 0)), (1, (0, 1, 0, 0, 0)), (1, (0, 0, 0, 1, 0))
        cases = [
            (("lost", 4), ("lost", 2), ("won", 3)), (("lost", 2), ("lost", 4), ("won", 3)),
            (("won", 1), ("lost", 6), ("won", 7)), (("won", 1), ("won", 5), ("lost", 6)),
            (("won", 5), ("won", 1), ("lost", 6)), (("won", 1), ("drawn",), ("drawn",)),
            (("drawn",), ("lost", 0), ("won", 1)), (("drawn",), ("drawn",), ("drawn",)),
        ]
        for one, other, expected in cases:
            self.assertEqual(solve_part(game, {first: one, second: other}, [start]), {start: expected})

    def test_nothing_is_modified(self):
        told = parts_of(self.game)
        known, positions = copy.deepcopy(self.whole), sorted(self.parts[4][1])
        solve_part(self.game, known, positions)[(0, ())] = ("drawn",)
        solve_parts(self.game, positions)[0][1][(0, ())] = ("drawn",)
        classes(self.game, positions).append("more")
        self.assertEqual((parts_of(self.game), known, positions), (told, self.whole, sorted(self.parts[4][1])))


class JudgePartTest(unittest.TestCase):
    def setUp(self):
        self.game = hunt()
        parts = solve_parts(self.game, [HUNT])
        self.book = parts[4][1]
        self.known = together(part for _, part in parts[:4])
        self.over = (1, (0, 1, 1, 0, 0, 0))

    def check(self, book, expected, known=None):
        self.assertEqual(judge_part(self.game, self.known if known is None else known, book), expected)

    def test_accepted(self):
        self.check(self.book, None)
        self.check(self.book, None, {**self.known, **self.book})
        self.check({self.over: ("lost", 0)}, None, {})
        self.check({}, None)
        self.check({}, None, {})

    def test_the_known_book_is_not_judged(self):
        wrong = {position: ("drawn",) for position in self.known}
        self.check({}, None, wrong)
        self.check({self.over: ("lost", 0)}, None, wrong)
        self.check({self.over: ("lost", 0)}, None, {(7, ()): ("even",)})

    def test_class(self):
        others = sorted(position for position in self.known if class_of(position) == (1, 1))
        book = {**self.book, others[3]: self.known[others[3]], others[5]: self.known[others[5]]}
        least = min(book)
        expected = min(position for position in book if class_of(position) != class_of(least))
        self.check(book, (expected, "class"))
        self.check(dict(sorted(book.items(), reverse=True)), (expected, "class"))

    def test_class_of_the_least_one(self):
        # The least position alone has a class of its own: the others have another one than it.
        least = (0, (0, 0, 0, 0, 0, 0))
        self.check({**self.book, least: ("lost", 0)}, (min(self.book), "class"))

    def test_class_comes_first(self):
        least = (0, (0, 0, 0, 0, 0, 0))
        book = {least: ("even",), HUNT: ("drawn",), (0, (9,)): ("drawn",)}
        self.check(book, (HUNT, "class"))
        self.check(without(book, HUNT), ((0, (9,)), "class"))

    def test_position(self):
        for position in ((-1, HUNT[1]), (0, (1, 1, 2)), (0, (3, 1, 2, 0, 0, 0)), (2, HUNT[1])):
            self.assertEqual(class_of(position), (2, 1))
            self.check({**self.book, position: ("drawn",)}, (position, "position"))
            self.check({position: ("even",)}, (position, "position"))

    def test_value(self):
        least = min(self.book)
        for value in NO_VALUES:
            self.check(changed(self.book, least, value), (least, "value"))
            self.check({HUNT: value}, (HUNT, "value"))

    def test_over(self):
        for value in (("lost", 1), ("won", 0), ("drawn",)):
            self.check({self.over: value}, (self.over, "over"))

    def test_next_is_in_neither_book(self):
        self.check({HUNT: ("won", 3)}, (HUNT, "next"))
        later = next_positions(self.game, HUNT)[0]
        verdict = judge_part(self.game, self.known, without(self.book, later))
        self.assertEqual(verdict[1], "next")
        self.assertIn(later, next_positions(self.game, verdict[0]))
        capture = min(position for position in self.book
                      if [later for later in next_positions(self.game, position) if later in self.known])
        self.check(self.book, (capture, "next"), {})

    def test_next_has_no_value(self):
        capture = min(position for position in self.book
                      if [later for later in next_positions(self.game, position) if later in self.known])
        for later in next_positions(self.game, capture):
            if later in self.known:
                for value in NO_VALUES:
                    verdict = judge_part(self.game, changed(self.known, later, value), self.book)
                    self.assertEqual(verdict, (capture, "next"))

    def test_wrong(self):
        for position in self.book:
            for value in (("won", 1), ("won", 3), ("lost", 2), ("lost", 0), ("drawn",)):
                if value != self.book[position]:
                    verdict = judge_part(self.game, self.known, changed(self.book, position, value))
                    self.assertIn(verdict[1], ("over", "wrong"))
                    near = [position] + [one for one in self.book if position in next_positions(self.game, one)]
                    self.assertIn(verdict[0], near)

    def test_a_wrong_value_of_the_known_book(self):
        position = min(one for one in self.book if self.book[one] == ("won", 1))
        later = [one for one in next_positions(self.game, position) if one in self.known]
        self.assertEqual(self.known[later[0]], ("lost", 0))
        verdict = judge_part(self.game, changed(self.known, later[0], ("drawn",)), self.book)
        self.assertEqual(verdict[1], "wrong")

    def test_the_book_comes_before_the_known_one(self):
        """Where both have a position, it is the book's value that is judged."""
        known = {**self.known, **{position: ("drawn",) for position in self.book}}
        self.check(self.book, None, known)
        known = {**self.known, **self.book}
        self.check({HUNT: ("won", 3)}, None, known)
        self.check({HUNT: ("won", 5)}, (HUNT, "wrong"), known)

    def test_judged_part_by_part(self):
        """Promise 44: if each part is accepted behind those before it, all together are accepted."""
        maker = Maker(48)
        accepted = 0
        for game in small_rings(maker, 120):
            known, verdicts = {}, []
            for _, book in solve_parts(game, [maker.position(game)]):
                for position in sorted(book):
                    if maker.below(60) == 0:
                        book[position] = maker.one_of((("won", 1), ("lost", 2), ("drawn",)))
                verdicts.append(judge_part(game, known, book))
                both = {**known, **book}
                if verdicts[-1] is None:
                    accepted += 1
                    if not any(verdicts):
                        self.assertIsNone(judge_book(game, both))
                else:
                    self.assertIsNotNone(judge_book(game, both))
                known = both
            self.assertEqual(judge_book(game, known) is None, not any(verdicts))
        self.assertGreater(accepted, 100)

    def test_nothing_is_modified(self):
        told = parts_of(self.game)
        known, book = copy.deepcopy(self.known), copy.deepcopy(self.book)
        judge_part(self.game, known, book)
        self.assertEqual((parts_of(self.game), known, book), (told, self.known, self.book))
        self.assertEqual((list(known), list(book)), (list(self.known), list(self.book)))


if __name__ == "__main__":
    unittest.main()
