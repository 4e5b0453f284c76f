"""Promises 1 to 4: what holds for the whole program, and that all of the interface is there."""

import ast
import copy
import importlib
import inspect
import os
import unittest

import skewer
from skewer import errors
from skewer.book import next_positions, reachable, solve
from skewer.desk import Desk
from skewer.edits import renew, touched, witness
from skewer.generator import build, moves_by_automata
from skewer.judge import judge_book
from skewer.play import line_after
from skewer.referee import agree
from skewer.runs import moves
from skewer.spelling import accepts_paper, make_paper
from skewer.workers import Worker
from tests.desks import DUEL, HUNT, HUNT_ROOT, large_lines, text_lines
from tests.games import parts_of, ring_of, walk
from tests.liars import teller
from tests.made import Maker, made_games, small_rings
from tests.slow import plain_book
from tests.slow_more import plain_differ

FOLDER = os.path.dirname(os.path.abspath(skewer.__file__))

# The names of the interface, with their parameters; "Class" alone stands for its constructor.
INTERFACE = {
    "errors": ["SkewerError", "TextError(line, column, reason)", "TooLarge(limit)", "InvalidMove(index)",
               "InvalidGame(reason)", "InvalidLine(line)", "UnknownPosition(position)", "InvalidPosition(position)"],
    "syntax": ["Board(size, ways)", "Game(board, kinds, clauses, programs)", "same_game(game, other)",
               "is_let_by(game)", "is_name(word)"],
    "lexer": ["tokens(line, number)"],
    "reader": ["read_game(text)", "read_position(game, text)", "edited(game, text)"],
    "writer": ["write_game(game)", "write_program(game, program)", "write_condition(game, condition)",
               "write_position(game, position)"],
    "runs": ["man_of(side, kind)", "side_of(man)", "kind_of(man)", "spots(game, side, program, spot)",
             "moves(game, position)", "after(game, position, move)"],
    "clauses": ["holds(game, position, condition)", "end(game, position)", "is_over(game, position)"],
    "play": ["line_after(game, position, line)", "is_line(game, position, line)"],
    "generator": ["Automaton(rows, ends)", "steps_of(program)", "build_for(program)", "build(game, kind, side)",
                  "fits(game, automaton)", "spells(automaton, row)", "moves_from(game, position, field, automaton)",
                  "moves_by_automata(game, position)"],
    "spelling": ["accepts_paper(program, automaton, paper)", "make_paper(program, automaton)"],
    "back": ["before(game, position, limits)", "limits_of(game, position)"],
    "book": ["next_positions(game, position)", "reachable(game, positions)", "over_value(game, position)",
             "solve(game, positions)"],
    "judge": ["is_position(game, position)", "judge_book(game, book)"],
    "mirror": ["is_mirror(game, mirror)", "mirrors(game)", "mirrored(mirror, position)", "mirrored_move(mirror, move)",
               "joined(first, second)", "undone(mirror)", "representative(known, position)", "small_book(known, book)",
               "value_by(known, small, position)"],
    "parts": ["class_of(position)", "classes(game, positions)", "solve_part(game, known, positions)",
              "solve_parts(game, positions)", "judge_part(game, known, book)"],
    "workers": ["Worker(name, answers, *, most=None)", "Worker.ask(self, position)", "Worker.asked(self)",
                "is_sound(claim)", "number_of(claim)"],
    "dispute": ["follows(answers)", "settle(game, position, first, second)",
                "settle_claims(game, position, first, second, claims)", "accepts_record(game, record)"],
    "referee": ["agree(game, position, workers)", "agreed_book(game, positions, workers)"],
    "edits": ["differ(old, new, position)", "touched(old, new, book, roots)", "renew(old, new, book, roots)",
              "witness(old, new, book, position)"],
    "lines": ["keeping_moves(game, book, position)", "best_line(game, book, position)",
              "ways_to_win(game, book, position)", "key(game, book, position)", "is_sound(game, book, position)",
              "problems(game, book, n)"],
    "reach": ["shortest_game(game, position, wanted)", "within(game, position, n)"],
    "report": ["move_word(game, position, move)", "value_words(value)", "changes_report(game, changes)",
               "three_workers(book, seed, lies)"],
    "desk": ["Desk()", "Desk.obey(self, line)", "Desk.lines(self)", "Desk.game(self)", "Desk.book(self)",
             "Desk.roots(self)", "answers_of(lines)"],
}


def package_files():
    return sorted(name for name in os.listdir(FOLDER) if name.endswith(".py"))


def tree_of(name):
    with open(os.path.join(FOLDER, name), encoding="utf-8") as file:
        return ast.parse(file.read())


class InterfaceTest(unittest.TestCase):
    def test_names_and_parameters(self):
        for module_name, entries in INTERFACE.items():
            module = importlib.import_module("skewer." + module_name)
            for entry in entries:
                name, _, parameters = entry.partition("(")
                with self.subTest(module=module_name, name=name):
                    owner, _, method = name.partition(".")
                    thing = vars(module)[owner]
                    self.assertEqual(thing.__module__, "skewer." + module_name)
                    if method:
                        thing = vars(thing)[method]
                    if parameters:
                        self.assertEqual(str(inspect.signature(thing)), "(" + parameters)

    def test_defined_where_they_stand(self):
        for module_name, entries in INTERFACE.items():
            defined = {node.name for node in tree_of(module_name + ".py").body
                       if isinstance(node, (ast.FunctionDef, ast.ClassDef))}
            names = {entry.partition("(")[0].partition(".")[0] for entry in entries}
            self.assertEqual(names - defined, set())


class ImportsTest(unittest.TestCase):
    """Promise 3: no clock, no random numbers and no files."""

    def test_only_the_package_and_heaps(self):
        for name in package_files():
            for node in ast.walk(tree_of(name)):
                self.assertNotIsInstance(node, ast.Import, name)
                if isinstance(node, ast.ImportFrom):
                    self.assertTrue(node.module.startswith("skewer.") or node.module == "heapq", (name, node.module))
                if isinstance(node, ast.Name):
                    self.assertNotIn(node.id, ("open", "input", "print", "hash", "id", "exec", "eval", "__import__"))


class ErrorsTest(unittest.TestCase):
    """Promise 4."""

    def test_each_class_stands_directly_below(self):
        found = {name: thing for name, thing in vars(errors).items() if isinstance(thing, type)}
        self.assertEqual(sorted(found), sorted(entry.partition("(")[0] for entry in INTERFACE["errors"]))
        for name, thing in found.items():
            self.assertEqual(thing.__bases__, (ValueError,) if name == "SkewerError" else (errors.SkewerError,))

    def test_no_other_errors(self):
        """All that is raised, anywhere in the package, is of these classes."""
        names = {entry.partition("(")[0] for entry in INTERFACE["errors"]}
        raised = set()
        for name in package_files():
            for node in ast.walk(tree_of(name)):
                if isinstance(node, ast.Raise):
                    raised.add(node.exc.func.id)
                if isinstance(node, ast.ClassDef) and name != "errors.py":
                    self.assertEqual(node.bases, [])
        self.assertEqual(raised - names, set())


class SameResultsTest(unittest.TestCase):
    """Promise 3: the same calls give the same results."""

    def test_a_desk(self):
        lines = text_lines(HUNT) + ["load", "root " + HUNT_ROOT, "solve", "value " + HUNT_ROOT,
                                    "edit clause 0 drawn if few 2", "agree 77 30 " + HUNT_ROOT, "game"]
        lines += text_lines(DUEL) + ["load", "solve"] + text_lines(large_lines())
        one, other = Desk(), Desk()
        self.assertEqual([one.obey(line) for line in lines], [other.obey(line) for line in lines])
        self.assertEqual(list(solve(ring(), [START])), list(solve(ring(), [START])))


START = (0, (1, 1, 0, 2, 0, 0))


def ring(clauses=None):
    return ring_of(6, [(walk(0, 1), walk(0, 1))], clauses)


class FactsTest(unittest.TestCase):
    """Promise 2: four facts."""

    def test_generators(self):
        maker = Maker(1)
        for game in made_games(1, 150):
            for _ in range(3):
                position = maker.position(game)
                self.assertEqual(moves_by_automata(game, position), moves(game, position))
            for kind, pair in enumerate(game.programs):
                for side in (0, 1):
                    verdict, paper = make_paper(pair[side], build(game, kind, side))
                    self.assertEqual(verdict, "paper")
                    self.assertIs(accepts_paper(pair[side], build(game, kind, side), paper), True)

    def test_books(self):
        """Also if play can go on for ever."""
        maker = Maker(2)
        accepted = 0
        for game in small_rings(maker, 250):
            start = maker.position(game)
            right = plain_book(game, [start])
            book = {one: value for one, value in teller(maker, game, start, right).items() if value is not None}
            if judge_book(game, book) is None:
                accepted += 1
                self.assertEqual(book, {one: plain_book(game, [one])[one] for one in book})
            self.assertIsNone(judge_book(game, right))
        self.assertGreater(accepted, 50)

    def test_workers(self):
        maker = Maker(3)
        for game in small_rings(maker, 200):
            start = maker.position(game)
            right = plain_book(game, [start])
            books = [teller(maker, game, start, right) for _ in range(3)]
            books.insert(maker.below(4), right)
            workers = [Worker(name, book) for name, book in zip("abcd", books)]
            self.assertEqual(agree(game, start, workers)[0], right[start])

    def test_edits(self):
        """What is not told anew has not changed; each change comes with a line to where the games differ."""
        maker = Maker(4)
        many = 0
        for game in small_rings(maker, 200):
            size, kinds = game.board.size, len(game.kinds)
            clause = (maker.condition(size, kinds, 2), maker.one_of(("won", "lost", "drawn")))
            new = ring_of(size, game.programs, game.clauses[1:] + [clause])
            start = maker.position(game)
            book = plain_book(game, [start])
            renewed, changes = renew(game, new, book, [start])
            hit = touched(game, new, book, [start])
            self.assertEqual(renewed, plain_book(new, [start]))
            for position in set(renewed) - set(hit):
                self.assertEqual(renewed[position], book[position])
            for position, _, _ in changes[::4]:
                last = line_after(new, position, witness(game, new, book, position))
                self.assertTrue(last not in book or plain_differ(game, new, last))
                many += 1
        self.assertGreater(many, 50)


class ModifiedTest(unittest.TestCase):
    """Promise 3: no call changes what it was passed."""

    def test_what_is_shared_by_calls(self):
        game, new = ring(), ring([(("few", 2), "drawn")])
        book = solve(game, [START])
        told = (parts_of(game), parts_of(new), copy.deepcopy(book), list(book))
        roots, workers = [START], [Worker("ann", book), Worker("bob", {START: ("drawn",)})]
        next_positions(game, START).clear()
        reachable(game, roots).clear()
        renew(game, new, book, roots)[0].clear()
        renew(game, game, book, roots)[0].clear()
        agree(game, START, workers)[1].clear()
        touched(game, new, book, roots).clear()
        self.assertEqual((parts_of(game), parts_of(new), book, list(book)), told)
        self.assertEqual((roots, len(workers)), ([START], 2))
        self.assertEqual(workers[0].ask(START), ("won", 3))


if __name__ == "__main__":
    unittest.main()
