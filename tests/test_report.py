"""Promises 64 and 65: how moves, values and changes are written, and the three workers."""

import copy
import unittest

from skewer.book import solve
from skewer.edits import renew
from skewer.report import changes_report, move_word, three_workers, value_words
from skewer.runs import moves
from tests.games import either, game_of, parts_of, ring_of, row, walk
from tests.made import Maker, made_games
from tests.slow_more import plain_workers

START = (0, (1, 2, 3, 4))


class MoveTest(unittest.TestCase):
    def check(self, position, move, expected):
        self.assertEqual(move_word(game_of(), position, move), expected)

    def test_no_field(self):
        self.check(START, (0, 3, (), 0), "0-3")
        self.check(START, (2, 0, (), 1), "2-0")
        self.check((1, START[1]), (1, 1, (), 0), "1-1")

    def test_taken_fields(self):
        self.check(START, (0, 3, (1,), 0), "0-3x1")
        self.check(START, (0, 3, (1, 2, 3), 0), "0-3x1x2x3")
        self.check(START, (2, 2, (0,), 1), "2-2x0")

    def test_another_kind(self):
        """The name stands there if the kind is not that of the man who moves, whichever of the two that is."""
        self.check(START, (0, 3, (), 1), "0-3=king")
        self.check(START, (2, 3, (), 0), "2-3=man")
        self.check((1, START[1]), (1, 0, (), 1), "1-0=king")
        self.check((1, START[1]), (3, 0, (), 0), "3-0=man")
        self.check((1, START[1]), (3, 3, (), 0), "3-3=man")

    def test_taken_fields_and_another_kind(self):
        self.check(START, (0, 3, (1, 3), 1), "0-3x1x3=king")
        self.check((1, START[1]), (3, 0, (0,), 0), "3-0x0=man")

    def test_fields_of_two_digits(self):
        game = ring_of(24, [(walk(0), walk(1))])
        position = (0, (0,) * 10 + (1,) + (2,) * 13)
        self.assertEqual(move_word(game, position, (10, 23, (11, 12, 20), 0)), "10-23x11x12x20")

    def test_moves_of_a_game(self):
        take = either(row(("go", 0), ("take",)), row(("go", 0), ("take",), ("lay", 1), ("go", 0), ("empty",)))
        game = game_of(programs=[(take, take), (take, take)], clauses=[])
        position = (0, (1, 2, 0, 4))
        self.assertEqual([move_word(game, position, move) for move in moves(game, position)], ["0-1x1", "0-2x1=king"])

    def test_nothing_is_modified(self):
        game, move = game_of(), (0, 3, (1, 3), 1)
        parts = parts_of(game)
        move_word(game, START, move)
        self.assertEqual((parts_of(game), move), (parts, (0, 3, (1, 3), 1)))


class ValueTest(unittest.TestCase):
    def test_values(self):
        for value, expected in ((("won", 0), "won 0"), (("won", 15), "won 15"), (("lost", 0), "lost 0"),
                                (("lost", 120), "lost 120"), (("drawn",), "drawn")):
            self.assertEqual(value_words(value), expected)


class ChangesTest(unittest.TestCase):
    def test_none(self):
        self.assertEqual(changes_report(game_of(), []), [])

    def test_several(self):
        changes = [((0, (0, 1, 0, 4)), ("won", 3), ("drawn",)), ((1, (0, 0, 0, 0)), ("drawn",), ("lost", 10)),
                   ((1, (2, 3, 0, 0)), ("lost", 2), ("lost", 4))]
        told = copy.deepcopy(changes)
        lines = ["turn 0 . man0 . king1 was won 3 is drawn", "turn 1 . . . . was drawn is lost 10",
                 "turn 1 man1 king0 . . was lost 2 is lost 4"]
        self.assertEqual(changes_report(game_of(), changes), lines)
        self.assertEqual(changes_report(game_of(), changes[::-1]), lines[::-1])
        self.assertEqual(changes, told)

    def test_changes_of_an_edit(self):
        """In the order of the list, with the names of the game that is told."""
        old = ring_of(6, [(walk(0, 1), walk(0, 1))])
        new = ring_of(6, [(walk(0, 1), walk(0, 1))], [(("few", 2), "drawn")], ["pawn"])
        start = (0, (1, 1, 0, 2, 0, 0))
        _, changes = renew(old, new, solve(old, [start]), [start])
        lines = changes_report(new, changes)
        self.assertEqual(len(lines), len(changes))
        self.assertIn("turn 0 pawn0 pawn0 . pawn1 . . was won 3 is drawn", lines)
        self.assertEqual(len(set(lines)), len(lines))


class WorkersTest(unittest.TestCase):
    def answers(self, book, seed, lies):
        workers = three_workers(book, seed, lies)
        self.assertEqual([worker.name for worker in workers], ["ann", "bob", "cid"])
        answers = [{position: worker.ask(position) for position in book} for worker in workers]
        self.assertEqual([worker.asked() for worker in workers], [list(book)] * 3)
        self.assertEqual([worker.ask((0, ())) for worker in workers], [None] * 3)
        return answers

    def book(self, *values):
        return {(0, (number,)): value for number, value in enumerate(values)}

    def test_no_lies(self):
        book = self.book(("won", 3), ("drawn",), ("lost", 2))
        for seed in (0, 1, 999999):
            self.assertEqual(self.answers(book, seed, 0), [book, book, book])

    def test_numbers(self):
        """r1 = SEED * 48271 + 11, and so on, in turn for ann and cid."""
        book = self.book(*[("drawn",)] * 7)
        numbers = [11]
        while len(numbers) < 4:
            numbers.append((numbers[-1] * 48271 + 11) % 2147483647)
        self.assertEqual(numbers[:3], [11, 530992, (530992 * 48271 + 11) % 2147483647])
        answers = self.answers(book, 0, 2)
        self.assertEqual([position for position in book if answers[0][position] != ("drawn",)], [(0, (11 % 7,))])
        self.assertEqual([position for position in book if answers[2][position] != ("drawn",)], [(0, (530992 % 7,))])
        self.assertEqual(answers[1], book)
        self.assertEqual(answers[0][(0, (4,))], ("won", 1))

    def test_the_positions_are_numbered_in_ascending_order(self):
        ordered = self.book(("won", 1), ("won", 2), ("won", 3), ("lost", 1), ("lost", 2))
        mixed = {position: ordered[position] for position in sorted(ordered, key=lambda one: -one[1][0])}
        self.assertEqual(self.answers(mixed, 5, 3), self.answers(ordered, 5, 3))
        self.assertEqual(self.answers(mixed, 5, 1)[0], {**ordered, (0, ((5 * 48271 + 11) % 5,)): ("lost", 2)})

    def test_each_other_answer(self):
        """One position, that is hit each time: won, lost, drawn, won in one move, lost in one move .."""
        rounds = [("won", 7), ("lost", 7), ("drawn",), ("won", 1), ("lost", 1), ("drawn",), ("won", 1)]
        for first in range(3):
            book = self.book(rounds[first])
            for lies in range(9):
                ann, bob, cid = self.answers(book, 12, lies)
                self.assertEqual(bob, book)
                self.assertEqual(ann, self.book(self.turned(rounds[first], (lies + 1) // 2)))
                self.assertEqual(cid, self.book(self.turned(rounds[first], lies // 2)))

    def turned(self, value, times):
        for _ in range(times):
            value = {"won": ("lost", value[-1]), "lost": ("drawn",), "drawn": ("won", 1)}[value[0]]
        return value

    def test_at_most_40(self):
        book = self.book(*[("won", 2 * number + 1) for number in range(50)])
        for seed in (0, 7, 123456):
            forty = self.answers(book, seed, 40)
            self.assertNotEqual(self.answers(book, seed, 39), forty)
            for lies in (41, 42, 100, 999999):
                self.assertEqual(self.answers(book, seed, lies), forty)

    def test_an_empty_book(self):
        for lies in (0, 1, 50):
            self.assertEqual(self.answers({}, 3, lies), [{}, {}, {}])

    def test_made_books(self):
        maker = Maker(64)
        for game in made_games(64, 150):
            book = solve(game, [maker.position(game)])
            seed, lies = maker.one_of((0, 1, maker.below(1000000), 999999)), maker.below(60)
            self.assertEqual(self.answers(book, seed, lies), plain_workers(book, seed, lies))

    def test_nothing_is_modified(self):
        book = self.book(("won", 3), ("drawn",), ("lost", 2))
        told = copy.deepcopy(book)
        workers = three_workers(book, 9, 5)
        self.assertEqual((book, list(book)), (told, list(told)))
        book[(0, (0,))] = ("lost", 0)
        self.assertEqual(workers[1].ask((0, (0,))), ("won", 3))
        workers.clear()
        self.assertEqual(len(three_workers(book, 9, 5)), 3)


if __name__ == "__main__":
    unittest.main()
