"""Promises 35 to 37: when a book is correct and accepted, and what the judge tells."""

import copy
import unittest

from skewer.book import next_positions, solve
from skewer.judge import is_position, judge_book
from skewer.syntax import Board, Game
from tests.games import either, game_of, parts_of, ring_of, step_to, walk
from tests.made import Maker, made_games, small_rings
from tests.slow import plain_book, plain_judge

HUNT = (0, (1, 1, 0, 2, 0, 0))
VALUES = (("won", 0), ("won", 1), ("won", 2), ("won", 3), ("won", 9), ("lost", 0), ("lost", 1), ("lost", 2),
          ("lost", 8), ("drawn",))
NO_VALUES = (("won",), ("lost",), ("drawn", 0), ("drawn", 3), ("won", -1), ("lost", -2), ("even",), ("even", 1),
             ("Won", 1), ("",), ("", 0))


def hunt(clauses=None):
    """Two men of side 0 hunt one of side 1 on a ring of six fields."""
    return ring_of(6, [(walk(0, 1), walk(0, 1))], clauses)


def changed(book, position, value):
    return {one: value if one == position else book[one] for one in book}


class PositionTest(unittest.TestCase):
    def check(self, expected, *positions):
        for position in positions:
            with self.subTest(position=position):
                self.assertIs(is_position(game_of(), position), expected)

    def test_positions(self):
        self.check(True, (0, (0, 0, 0, 0)), (1, (0, 0, 0, 0)), (0, (1, 2, 3, 4)), (1, (4, 4, 4, 4)))

    def test_another_turn(self):
        self.check(False, (2, (0, 0, 0, 0)), (-1, (0, 0, 0, 0)), (99, (1, 2, 3, 4)))

    def test_another_number_of_fields(self):
        self.check(False, (0, ()), (0, (0, 0, 0)), (1, (0, 0, 0, 0, 0)), (1, (1,)))

    def test_men_that_the_game_does_not_have(self):
        self.check(False, (0, (5, 0, 0, 0)), (1, (0, 0, 0, 6)), (0, (0, -1, 0, 0)), (0, (1, 2, 99, 4)),
                   (1, (-2, 0, 0, 0)))

    def test_the_game_tells_fields_and_kinds(self):
        one = Game(Board(1, [("on", [0])]), ["man"], [], [(("rest",), ("rest",))])
        for man in range(-1, 5):
            self.assertIs(is_position(one, (0, (man,))), 0 <= man <= 2)
        six = game_of(kinds=["a", "b", "c", "d", "e", "f"], programs=[(("rest",), ("rest",))] * 6)
        for man in range(10, 15):
            self.assertIs(is_position(six, (1, (man, 0, 12, 0))), man <= 12)


class AcceptedTest(unittest.TestCase):
    def test_the_empty_book(self):
        self.assertIsNone(judge_book(hunt(), {}))

    def test_solved_books(self):
        for clauses in (None, [(("few", 2), "drawn")], [(("few", 2), "won")], [(("holds", 0, [0, 2]), "lost")]):
            game = hunt(clauses)
            self.assertIsNone(judge_book(game, solve(game, [HUNT])))
            self.assertIsNone(judge_book(game, solve(game, [HUNT, (1, HUNT[1]), (0, (0,) * 6)])))

    def test_books_of_positions_that_are_over(self):
        game = hunt([(("few", 2), "drawn")])
        self.assertIsNone(judge_book(game, {(0, (1, 0, 0, 0, 2, 0)): ("drawn",)}))
        self.assertIsNone(judge_book(hunt(), {(0, (2, 0, 0, 0, 2, 0)): ("lost", 0), (1, (0,) * 6): ("lost", 0)}))

    def test_the_order_in_the_book_does_not_matter(self):
        book = solve(hunt(), [HUNT])
        self.assertIsNone(judge_book(hunt(), {position: book[position] for position in sorted(book, reverse=True)}))

    def test_just_one_book_of_the_same_positions(self):
        """Each value of an accepted book is the only one there that is accepted."""
        game = hunt()
        book = solve(game, [HUNT])
        self.assertEqual(len(book), 135)
        for position in book:
            for value in VALUES + NO_VALUES:
                verdict = judge_book(game, changed(book, position, value))
                if value == book[position]:
                    self.assertIsNone(verdict)
                else:
                    self.assertIsNotNone(verdict)


class ReasonsTest(unittest.TestCase):
    def setUp(self):
        self.game = hunt()
        self.book = solve(self.game, [HUNT])
        self.over = (1, (1, 1, 0, 0, 0, 0))
        self.least = min(self.book)

    def check(self, book, expected, game=None):
        self.assertEqual(judge_book(game or self.game, book), expected)
        self.assertEqual(plain_judge(game or self.game, book), expected)

    def test_position(self):
        for position in ((0, (1, 1, 0, 2, 0)), (0, (1, 1, 0, 2, 0, 0, 0)), (-1, HUNT[1]), (0, (-1, 0, 0, 0, 0, 0)),
                         (0, (0, 0, 3, 0, 0, 0)), (0, ())):
            self.check({position: ("drawn",)}, (position, "position"))
            self.check({**self.book, position: ("drawn",)}, (position, "position"))
        for position in ((2, HUNT[1]), (2, ()), (9, (99,))):
            self.check({**self.book, position: ("no",)}, (position, "position"))

    def test_value(self):
        for value in NO_VALUES:
            self.check({self.over: value}, (self.over, "value"))
            # It is none of a next position either, but that is told of a greater position, or of a lesser one as "next".
            self.check({HUNT: value}, (HUNT, "value"))
            self.check(changed(self.book, self.least, value), (self.least, "value"))

    def test_over(self):
        for value in VALUES:
            expected = None if value == ("lost", 0) else (self.over, "over")
            self.check({self.over: value}, expected)
        for result, right in (("won", ("won", 0)), ("lost", ("lost", 0)), ("drawn", ("drawn",))):
            game = hunt([(("few", 3), result)])
            for value in VALUES:
                self.check({HUNT: value}, None if value == right else (HUNT, "over"), game)

    def test_next_is_not_in_the_book(self):
        for value in VALUES:
            self.check({HUNT: value}, (HUNT, "next"))
        for later in next_positions(self.game, HUNT):
            book = {position: self.book[position] for position in self.book if position != later}
            verdict = judge_book(self.game, book)
            self.assertEqual(verdict[1], "next")
            self.assertEqual(verdict, plain_judge(self.game, book))
            self.assertIn(later, next_positions(self.game, verdict[0]))

    def test_next_has_no_value(self):
        later = next_positions(self.game, HUNT)[0]
        for value in NO_VALUES:
            book = {position: self.book[position] for position in [HUNT] + next_positions(self.game, HUNT)}
            self.check(changed(book, later, value), (HUNT, "next"))

    def test_wrong(self):
        nexts = next_positions(self.game, HUNT)
        self.assertEqual(self.book[HUNT], ("won", 3))
        book = {position: self.book[position] for position in [HUNT] + nexts}
        for value in VALUES:
            verdict = judge_book(self.game, changed(book, HUNT, value))
            self.assertEqual(verdict, (HUNT, "wrong") if value != ("won", 3) else (nexts[0], "next"))

    def test_what_follows_from_the_next_values(self):
        """One position with two next ones, whose values are told as the book likes."""
        board = Board(3, [("a", [1, -1, -1]), ("b", [2, -1, -1])])
        game = Game(board, ["man"], [(("foeholds", 0, [1, 2]), "drawn")], [(either(("go", 0), ("go", 1)), ("rest",))])
        start, first, second = (0, (1, 0, 0)), (1, (0, 0, 1)), (1, (0, 1, 0))
        cases = [
            (("lost", 0), ("lost", 4), ("won", 1)),
            (("lost", 6), ("lost", 4), ("won", 5)),
            (("won", 0), ("lost", 4), ("won", 5)),
            (("drawn",), ("lost", 2), ("won", 3)),
            (("won", 0), ("won", 5), ("lost", 6)),
            (("won", 3), ("won", 3), ("lost", 4)),
            (("won", 3), ("drawn",), ("drawn",)),
            (("drawn",), ("drawn",), ("drawn",)),
        ]
        for one, other, right in cases:
            for value in VALUES:
                # Its next positions are over and drawn; the least position comes first.
                verdict = judge_book(game, {start: value, first: one, second: other})
                if value != right:
                    self.assertEqual(verdict, (start, "wrong"))
                elif one != ("drawn",):
                    self.assertEqual(verdict, (first, "over"))
                elif other != ("drawn",):
                    self.assertEqual(verdict, (second, "over"))
                else:
                    self.assertIsNone(verdict)

    def test_several_faults(self):
        """The least position is told, with its first reason."""
        wrong = next(position for position in sorted(self.book) if self.book[position] == ("won", 3))
        book = changed(self.book, wrong, ("won", 5))
        self.assertEqual(judge_book(self.game, book)[1], "wrong")
        self.check({**book, (2, ()): ("even",)}, judge_book(self.game, book))
        self.check({**book, (-1, ()): ("even",)}, ((-1, ()), "position"))
        self.check({**book, self.least: ("even",)}, (self.least, "value"))
        self.check({(2, ()): ("even",), (0, (9,)): ("drawn",), (0, (9, 9)): ("won", 1)}, ((0, (9,)), "position"))
        last = max(self.book)
        self.check({**book, last: ("even",)}, judge_book(self.game, book))

    def test_drawn_instead_of_won(self):
        """A book that calls a position drawn that is won, and all its neighbours with it, and so on."""
        book = {position: ("drawn",) for position in self.book}
        verdict = judge_book(self.game, book)
        self.assertEqual(verdict[1], "over")
        for position in self.book:
            if self.book[position] == ("lost", 0):
                book[position] = ("lost", 0)
        verdict = judge_book(self.game, book)
        self.assertEqual((verdict[1], self.book[verdict[0]]), ("wrong", ("won", 1)))
        self.assertEqual(verdict, plain_judge(self.game, book))
        for number in (1, 2, 3, 4):
            for position in self.book:
                if self.book[position][1:] == (number,):
                    book[position] = self.book[position]
            verdict = judge_book(self.game, book)
            self.assertEqual((verdict[1], self.book[verdict[0]][1]), ("wrong", number + 1))
        near = [HUNT] + next_positions(self.game, HUNT)
        book = {position: ("drawn",) if position in near else self.book[position] for position in self.book}
        verdict = judge_book(self.game, book)
        self.assertEqual(verdict[1], "wrong")
        self.assertEqual(verdict, plain_judge(self.game, book))

    def test_won_instead_of_drawn(self):
        """Whoever calls a win what can go on for ever needs a greater number at each further position."""
        game = ring_of(5, [(step_to(0), step_to(0))])
        book = solve(game, [(0, (1, 0, 0, 2, 0))])
        self.assertEqual(set(book.values()), {("drawn",)})
        for side in (0, 1):
            claimed = {position: ("won", 9) if position[0] == side else ("lost", 8) for position in book}
            self.assertEqual(judge_book(game, claimed)[1], "wrong")
            self.assertEqual(judge_book(game, claimed), plain_judge(game, claimed))

    def test_made_books(self):
        maker = Maker(35)
        reasons = {}
        for game in made_games(35, 250) + small_rings(maker, 300):
            book = plain_book(game, [maker.position(game)])
            for position in sorted(book):
                if maker.below(2 * len(book)) == 0:
                    del book[position]
                elif maker.below(len(book)) == 0:
                    book[position] = maker.one_of(VALUES + NO_VALUES)
                elif maker.below(4 * len(book)) == 0:
                    book[(position[0], position[1][1:] + (maker.below(9) - 1,))] = ("drawn",)
            verdict = judge_book(game, book)
            self.assertEqual(verdict, plain_judge(game, book))
            if verdict is None:
                self.assertEqual(book, {**plain_book(game, list(book)), **book})
                self.assertEqual(book, plain_book(game, list(book)))
            reason = None if verdict is None else verdict[1]
            reasons[reason] = reasons.get(reason, 0) + 1
        self.assertEqual(set(reasons), {None, "position", "value", "over", "next", "wrong"})
        self.assertGreater(min(reasons.values()), 4)

    def test_nothing_is_modified(self):
        told, book = parts_of(self.game), copy.deepcopy(self.book)
        judge_book(self.game, book)
        is_position(self.game, HUNT)
        self.assertEqual((parts_of(self.game), book, list(book)), (told, self.book, list(self.book)))


if __name__ == "__main__":
    unittest.main()
