"""Promise 12: the edits of a game, what they leave as it is, and their errors."""

import copy
import unittest

from skewer.reader import edited, read_game
from skewer.syntax import same_game
from skewer.writer import write_condition, write_game, write_program
from tests.games import game_of
from tests.made import made_games
from tests.texts import LINES, error_of, unmarked, whole_text

PROGRAMS = {6: (0, 0), 7: (0, 1), 8: (1, 0), 9: (1, 1)}


def whole():
    return read_game(whole_text())


def parts_of(game):
    """The parts of a game by their names, each copied."""
    parts = {"size": game.board.size, "ways": game.board.ways, "kinds": game.kinds}
    parts = parts | {"clauses": game.clauses, "programs": game.programs}
    return copy.deepcopy(parts)


def lists_in(part):
    """The identities of all lists in nested lists and tuples."""
    if not isinstance(part, (list, tuple)):
        return set()
    inner = {at for item in part for at in lists_in(item)}
    return inner | {id(part)} if isinstance(part, list) else inner


def lists_of(game):
    return lists_in((game.board.ways, game.kinds, game.clauses, game.programs)) | {id(game.board)}


class EditsTest(unittest.TestCase):
    def check(self, text, **changed):
        """The edit gives these parts, and leaves all others and the game that was passed as they were."""
        with self.subTest(text=text):
            game = whole()
            result = edited(game, text)
            self.assertEqual(parts_of(result), parts_of(whole()) | changed)
            self.assertEqual(parts_of(game), parts_of(whole()))
            self.assertIsNot(result, game)
            self.assertEqual(lists_of(result) & lists_of(game), set())

    def programs_with(self, kind, side, program):
        pairs = [list(pair) for pair in whole().programs]
        pairs[kind][side] = program
        return [tuple(pair) for pair in pairs]

    def test_programs(self):
        cases = [
            ("program man 0 = empty", 0, 0, ("empty",)), ("program man 1 = either()", 0, 1, ("either", [])),
            ("program king 0 = any(go west)", 1, 0, ("any", ("go", 1))),
            ("program king 1 = row(at king, lay man)", 1, 1, ("row", [("at", 1), ("lay", 0)])),
        ]
        for text, kind, side, program in cases:
            self.check(text, programs=self.programs_with(kind, side, program))

    def test_program_with_the_greatest_numbers(self):
        self.check("program man 0 = row(" + "own, " * 58 + "own)",
                   programs=self.programs_with(0, 0, ("row", [("own",)] * 59)))
        program = ("rest",)
        for _ in range(7):
            program = ("any", program)
        self.check("program man 0 = " + "any(" * 7 + "rest" + ")" * 7, programs=self.programs_with(0, 0, program))

    def test_clauses(self):
        first, second = whole().clauses
        self.check("clause 0 won if stuck", clauses=[(("stuck",), "won"), second])
        self.check("clause 1 lost if holds king on 0 3", clauses=[first, (("holds", 1, [0, 3]), "lost")])
        self.check("clause 2 drawn if few 3", clauses=[first, second, (("few", 3), "drawn")])

    def test_clauses_up_to_the_greatest_number(self):
        game = read_game(whole_text().split("clause")[0])
        for number in range(12):
            game = edited(game, f"clause {number} won if few {number}")
        self.assertEqual(game.clauses, [(("few", number), "won") for number in range(12)])
        self.assertEqual(error_of(edited, game, "clause 12 won if few 12"), (1, 8, "range"))
        last = edited(game, "clause 11 lost if stuck").clauses
        self.assertEqual(last[10:], [(("few", 10), "won"), (("stuck",), "lost")])
        first = edited(game, "clause 0 lost if stuck").clauses
        self.assertEqual(first[:2], [(("stuck",), "lost"), (("few", 1), "won")])

    def test_drop(self):
        first, second = whole().clauses
        self.check("drop clause 0", clauses=[second])
        self.check("drop clause 1", clauses=[first])
        self.assertEqual(edited(edited(whole(), "drop clause 0"), "drop clause 0").clauses, [])

    def test_ways(self):
        east, west = whole().board.ways
        self.check("way east 3 0", ways=[("east", [1, 2, 3, 0]), west])
        self.check("way east 0 nowhere", ways=[("east", [-1, 2, 3, -1]), west])
        self.check("way west 3 1", ways=[east, ("west", [-1, 0, 1, 1])])
        self.check("way west 0 0", ways=[east, ("west", [0, 0, 1, 2])])
        self.check("way east 2 1", ways=[("east", [1, 2, 1, -1]), west])

    def test_other_spaces(self):
        self.check("   drop   clause   0   ", clauses=whole().clauses[1:])
        self.check("program man 0=row(take,own)", programs=self.programs_with(0, 0, ("row", [("take",), ("own",)])))

    def test_what_the_game_has(self):
        for number in PROGRAMS:
            self.check(LINES[number - 1])
        self.check("clause 0 lost if lacks man")
        self.check("clause 1 won if few 2")
        self.check("way east 0 1")
        self.check("way east 3 nowhere")
        self.check("way west 0 nowhere")

    def test_what_made_games_have(self):
        for game in made_games(21, 60):
            texts = [line for line in write_game(game).split("\n") if line.startswith("program")]
            for number, (condition, result) in enumerate(game.clauses):
                texts.append(f"clause {number} {result} if {write_condition(game, condition)}")
            for name, leads in game.board.ways:
                words = ["nowhere" if there == -1 else str(there) for there in leads]
                texts.extend([f"way {name} {field} {word}" for field, word in enumerate(words)])
            for text in texts:
                self.assertIs(same_game(edited(game, text), game), True)

    def test_programs_of_made_games_exchanged(self):
        for game in made_games(22, 40):
            for kind, name in enumerate(game.kinds):
                first, second = game.programs[kind]
                one = edited(game, f"program {name} 0 = {write_program(game, second)}")
                two = edited(one, f"program {name} 1 = {write_program(game, first)}")
                self.assertEqual(one.programs[kind], (second, second))
                self.assertEqual(two.programs[kind], (second, first))
                self.assertEqual(two.programs[:kind] + two.programs[kind + 1:],
                                 game.programs[:kind] + game.programs[kind + 1:])


class ErrorsTest(unittest.TestCase):
    """An `@`, which is left out, stands ahead of the column of the error."""

    def check(self, marked, reason, game=None):
        text, column = unmarked(marked)
        with self.subTest(text=marked):
            game = whole() if game is None else game
            before = parts_of(game)
            self.assertEqual(error_of(edited, game, text), (1, column, reason))
            self.assertEqual(parts_of(game), before)

    def test_tokens(self):
        self.check("lamp 99 @!", "character")
        self.check("drop clause 0@\n", "character")
        self.check("way east 0 @-1", "character")
        self.check("way @abcdefghijklm 01", "word")
        self.check("drop clause @00", "number")
        self.check("clause 0 won if few @1000000", "number")

    def test_first_word(self):
        for text in ("@lamp", "@board 4", "@kind man", "@0", "@won if stuck", "@nowhere", " @drops clause 0", "@="):
            self.check(text, "line")

    def test_no_tokens(self):
        self.check("@", "line")
        self.check("@ ", "line")
        self.check("@       ", "line")

    def test_expected(self):
        texts = ["program@", "program @0", "program @row 0 = rest", "program man@", "program man @= rest"]
        texts = texts + ["program man 0@", "program man 0 @rest", "program man 0 =@", "program man 0 = @man"]
        texts = texts + ["program man 0 = rest@, rest", "program man 0 = rest @rest", "program man 1 = any(rest@"]
        texts = texts + ["clause@", "clause @won if stuck", "clause 0@", "clause 0 @if stuck", "clause 0 won@"]
        texts = texts + ["clause 0 won @stuck", "clause 0 won if@", "clause 0 won if @rest", "clause 0 won if stuck @0"]
        texts = texts + ["clause 0 won if not(stuck@", "drop@", "drop @0", "drop @program man 0", "drop clause@"]
        texts = texts + ["drop clause @man", "drop clause 0 @0", "drop clause 0@;", "way@", "way @0", "way @go 0 1"]
        texts = texts + ["way east@", "way east @east", "way east @nowhere", "way east 0@", "way east 0 @east"]
        texts = texts + ["way east 0@; 1", "way east 0 1 @2", "way east 0 1@;", "way east 0 nowhere @0", "way east 0 @"]
        for text in texts:
            self.check(text, "expected")

    def test_unknown(self):
        for text in ("program @lamp 0 = rest", "program @east 0 = rest", "program man 0 = go @man",
                     "program man 0 = row(at @lamp)", "program man 0 = lay @lamp", "clause 0 won if lacks @lamp",
                     "clause 0 won if foeholds @lamp on 0", "way @north 0 1", "way @man 0 1"):
            self.check(text, "unknown")

    def test_range(self):
        for text in ("program man @2 = rest", "program king @10 = rest", "clause @3 won if stuck",
                     "clause @12 won if stuck", "clause @999999 won if stuck", "drop clause @2", "drop clause @12",
                     "way east @4 0", "way east 0 @4", "way east @24 nowhere", "clause 0 won if holds man on @4",
                     "clause 0 won if holds man on 1 @1", "clause 1 won if foeholds man on 2 @1 9"):
            self.check(text, "range")

    def test_no_clause_to_drop(self):
        game = game_of(clauses=[])
        self.check("drop clause @0", "range", game)
        self.check("clause @1 won if stuck", "range", game)

    def test_clause_numbers_of_a_game_with_twelve(self):
        game = game_of(clauses=[(("few", n), "won") for n in range(12)])
        self.check("clause @12 won if stuck", "range", game)
        self.check("drop clause @12", "range", game)
        self.assertEqual(len(edited(game, "drop clause 11").clauses), 11)

    def test_deep(self):
        self.check("program man 0 = " + "any(" * 8 + "@rest", "deep")
        self.check("clause 0 won if " + "not(" * 8 + "@stuck", "deep")

    def test_parts(self):
        self.check("program man 0 = row(" + "rest, " * 59 + "@rest)", "parts")

    def test_order(self):
        self.check("way @north 9 9 9", "unknown")
        self.check("way east @9 9 9", "range")
        self.check("way east 0 @9 9", "range")
        self.check("clause @9 lamp", "range")
        self.check("drop @lamp 9", "expected")
        self.check("drop clause @9 9", "range")
        self.check("program @lamp 9 rest", "unknown")
        self.check("program man @9 rest", "range")

    def test_nothing_is_twice(self):
        self.assertEqual(edited(whole(), "way east 0 2").board.ways[0], ("east", [2, 2, 3, -1]))

    def test_long_edits(self):
        # Only the text of a game has a greatest length.
        self.assertEqual(edited(whole(), "drop clause 0" + " " * 30000).clauses, whole().clauses[1:])


if __name__ == "__main__":
    unittest.main()
