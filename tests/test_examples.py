"""The examples of the document and of README.md."""

import doctest
import os
import unittest

from skewer.back import before, limits_of
from skewer.book import next_positions, solve
from skewer.clauses import end, is_over
from skewer.desk import Desk
from skewer.dispute import accepts_record, settle
from skewer.edits import differ, renew, witness
from skewer.errors import InvalidMove, TextError
from skewer.generator import build_for, spells, steps_of
from skewer.judge import judge_book
from skewer.mirror import joined, mirrored, undone
from skewer.parts import class_of, judge_part, solve_parts
from skewer.play import line_after
from skewer.reader import edited, read_game, read_position
from skewer.referee import agree
from skewer.runs import after, moves, spots
from skewer.spelling import accepts_paper, make_paper
from skewer.syntax import Board, Game
from skewer.workers import Worker
from skewer.writer import write_game, write_position, write_program

README = os.path.join(os.path.dirname(os.path.dirname(os.path.abspath(__file__))), "README.md")


class DocumentTest(unittest.TestCase):
    def test_reader_and_writer(self):
        text = "board 4\nway east 0 1 2 3\nway west 3 2 1 0\nkind man\n"
        text = text + "program man 0 = any(row(go east, empty))\n"
        text = text + "program man 1 = row(go west, foe, take, go west, empty)\n"
        game = read_game(text + "clause lost if lacks man\n")
        self.assertEqual(game.board.ways[1], ("west", [-1, 0, 1, 2]))
        self.assertEqual(game.programs[0][0], ("any", ("row", [("go", 0), ("empty",)])))
        self.assertEqual(game.clauses, [(("lacks", 0), "lost")])
        self.assertEqual(write_game(game), text + "clause lost if lacks man\n")
        self.assertEqual(read_position(game, "turn 0 man0 . man1 ."), (0, (1, 0, 2, 0)))
        self.assertEqual(write_position(game, (1, (0, 1, 2, 0))), "turn 1 . man0 man1 .")
        self.assertEqual(edited(game, "drop clause 0").clauses, [])
        self.assertEqual(edited(game, "way east 3 0").board.ways[0], ("east", [1, 2, 3, 0]))
        self.assertEqual(write_program(game, ("either", [])), "either()")
        with self.assertRaises(TextError):
            edited(game, "drop clause 1")

    def test_position_of_point_eleven(self):
        board = Board(4, [("east", [-1] * 4)])
        game = Game(board, ["man", "king"], [], [(("rest",), ("rest",))] * 2)
        self.assertEqual(read_position(game, "turn 0 . man0 . king1"), (0, (0, 1, 0, 4)))

    def test_runs_and_clauses(self):
        board = Board(4, [("east", [1, 2, 3, -1]), ("west", [-1, 0, 1, 2])])
        ride = ("any", ("row", [("go", 0), ("empty",)]))
        hop = ("row", [("go", 1), ("foe",), ("take",), ("go", 1), ("empty",)])
        game = Game(board, ["man"], [(("lacks", 0), "lost")], [(ride, hop)])
        expected = [(0, (0, 0, 2, 0), 0), (1, (0, 0, 2, 0), 0)]
        self.assertEqual(spots(game, 0, ride, (0, (0, 0, 2, 0), 0)), expected)
        self.assertEqual(moves(game, (0, (1, 0, 2, 0))), [(0, 1, (), 0)])
        self.assertEqual(after(game, (0, (1, 0, 2, 0)), (0, 1, (), 0)), (1, (0, 1, 2, 0)))
        self.assertEqual(moves(game, (1, (0, 1, 2, 0))), [(2, 0, (1,), 0)])
        self.assertEqual(end(game, (0, (2, 0, 0, 0))), "lost")
        self.assertIs(is_over(game, (1, (0, 1, 2, 0))), False)
        self.assertEqual(line_after(game, (0, (1, 0, 2, 0)), [(0, 1, (), 0), (2, 0, (1,), 0)]), (0, (2, 0, 0, 0)))
        with self.assertRaises(InvalidMove):
            line_after(game, (0, (1, 0, 2, 0)), [(0, 2, (), 0)])

    def test_generator_and_spelling(self):
        slide = ("row", [("go", 0), ("any", ("row", [("empty",), ("go", 0)]))])
        self.assertEqual(steps_of(slide), [("go", 0), ("empty",), ("go", 0)])
        automaton = build_for(slide)
        self.assertEqual(automaton.rows[0], [(("go", 0), 1)])
        self.assertEqual(automaton.rows[1], [(("empty",), 2)])
        self.assertEqual(automaton.ends, [1, 3])
        self.assertIs(spells(automaton, [("go", 0), ("empty",), ("go", 0)]), True)
        self.assertIs(spells(automaton, []), False)
        paper = make_paper(slide, automaton)
        self.assertEqual((paper[0], accepts_paper(slide, automaton, paper[1])), ("paper", True))
        self.assertEqual(make_paper(("go", 0), automaton), ("differ", [("go", 0), ("empty",), ("go", 0)]))

    def test_back(self):
        board = Board(3, [("east", [1, 2, -1])])
        step = ("row", [("go", 0), ("either", [("empty",), ("row", [("foe",), ("take",)])])])
        game = Game(board, ["man"], [], [(step, step)])
        self.assertEqual(limits_of(game, (0, (1, 2, 0))), [1, 1])
        pairs = [((0, (1, 0, 0)), (0, 1, (), 0)), ((0, (1, 2, 0)), (0, 1, (1,), 0))]
        self.assertEqual(before(game, (1, (0, 1, 0)), [1, 0]), pairs[:1])
        self.assertEqual(before(game, (1, (0, 1, 0)), [1, 1]), pairs)

    def test_book_judge_and_parts(self):
        board = Board(3, [("on", [1, 2, -1]), ("off", [-1, 0, 1])])
        step, away = ("row", [("go", 0), ("empty",)]), ("row", [("go", 1), ("empty",)])
        game = Game(board, ["man"], [], [(step, away)])
        start, later = (0, (1, 0, 2)), (1, (0, 1, 2))
        self.assertEqual((next_positions(game, start), next_positions(game, (0, (0, 1, 2)))), ([later], []))
        book = solve(game, [start])
        self.assertEqual(book, {start: ("won", 1), later: ("lost", 0)})
        self.assertEqual((judge_book(game, book), judge_book(game, {start: ("drawn",)})), (None, (start, "next")))
        self.assertEqual((class_of(start), class_of((1, (1, 1, 0)))), ((1, 1), (2, 0)))
        parts = solve_parts(game, [start])
        self.assertEqual(([pair[0] for pair in parts], judge_part(game, {}, parts[0][1])), ([(1, 1)], None))

    def test_mirror(self):
        turned = ((1, 2, 0), (0,), False)
        self.assertEqual(mirrored(turned, (0, (1, 0, 2))), (0, (2, 1, 0)))
        self.assertEqual((joined(turned, turned), undone(turned)), (((2, 0, 1), (0,), False), ((2, 0, 1), (0,), False)))
        self.assertEqual(mirrored(((0, 1, 2), (0,), True), (0, (1, 0, 4))), (1, (2, 0, 3)))

    def test_dispute_and_referee(self):
        board = Board(3, [("on", [1, 2, -1]), ("off", [-1, 0, 1])])
        step, away = ("row", [("go", 0), ("empty",)]), ("row", [("go", 1), ("empty",)])
        game = Game(board, ["man"], [], [(step, away)])
        start, later = (0, (1, 0, 2)), (1, (0, 1, 2))
        honest = Worker("ann", solve(game, [start]))
        liar = Worker("bob", {start: ("drawn",), later: ("won", 3)})
        record = settle(game, start, honest, liar)
        # The example tells two steps and "over". But if the only next position is won for the other side, ("lost", 4)
        # follows, so that points 35 and 47 have it that "drawn" is "wrong" at the first step already.
        self.assertEqual([one[0] for one in record[0]], [start])
        self.assertEqual((record[1], accepts_record(game, record)), ([(1, "wrong")], True))
        self.assertEqual(agree(game, start, [liar, honest])[:2], (("won", 1), ["bob"]))
        # What the example tells comes from a liar whose claim follows from its answer.
        for book in ({start: ("drawn",), later: ("drawn",)}, {start: ("lost", 4), later: ("won", 3)}):
            record = settle(game, start, honest, Worker("bob", book))
            self.assertEqual([one[0] for one in record[0]], [start, later])
            self.assertEqual((record[1], accepts_record(game, record)), ([(1, "over")], True))

    def test_edits(self):
        board = Board(3, [("east", [1, 2, -1]), ("west", [-1, 0, 1])])
        step, away = ("row", [("go", 0), ("empty",)]), ("row", [("go", 1), ("empty",)])
        old = Game(board, ["man"], [], [(step, away)])
        new = Game(board, ["man"], [(("few", 2), "drawn")], [(step, away)])
        start = (0, (1, 0, 2))
        book = solve(old, [start])
        self.assertIs(differ(old, new, start), True)
        expected = ({start: ("drawn",)}, [(start, ("won", 1), ("drawn",))])
        self.assertEqual(renew(old, new, book, [start]), expected)
        self.assertEqual(witness(old, new, book, start), [])

    def test_desk(self):
        desk = Desk()
        lines = ["board 3", "way east 0 1 2", "way west 2 1 0", "kind man"]
        lines = lines + ["program man 0 = row(go east, empty)", "program man 1 = row(go west, empty)"]
        self.assertEqual([desk.obey("text " + line) for line in lines][5], ["lines 6"])
        self.assertEqual((desk.obey("load"), desk.obey("root turn 0 man0 . man1")), (["loaded 3 1"], ["roots 1"]))
        self.assertEqual((desk.obey("solve"), desk.obey("value turn 0 man0 . man1")), (["solved 2"], ["won 1 0-1"]))
        self.assertEqual(desk.obey("moves turn 0 man0 . man1"), ["0-1"])
        self.assertEqual(desk.obey("edit clause 0 drawn if few 2"),
                         ["edited 1", "turn 0 man0 . man1 was won 1 is drawn"])
        self.assertEqual(desk.obey("agree 5 9 turn 0 man0 . man1"), ["agreed drawn", "caught ann cid"])
        self.assertEqual(desk.obey("value turn 1 . man0 man1"), ["refused book"])


class ReadmeTest(unittest.TestCase):
    def test_examples(self):
        failed, tried = doctest.testfile(README, module_relative=False)
        self.assertEqual(failed, 0)
        self.assertGreater(tried, 0)


if __name__ == "__main__":
    unittest.main()
