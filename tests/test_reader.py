"""Promises 6, 7 and 8: the texts of games and what is read from them."""

import unittest

from skewer.errors import TextError, TooLarge
from skewer.reader import read_game
from skewer.syntax import Board, Game, is_let_by, same_game
from tests.texts import LINES, text_of, whole_text, with_line, with_more


def whole_game():
    """The game of the whole text."""
    ways = [("east", [1, 2, 3, -1]), ("west", [-1, 0, 1, 2])]
    hop = ("row", [("go", 1), ("foe",), ("take",), ("go", 1), ("empty",)])
    programs = [
        (("any", ("row", [("go", 0), ("empty",)])), hop),
        (("either", [("go", 0), ("go", 1)]), ("rest",)),
    ]
    return Game(Board(4, ways), ["man", "king"], [(("lacks", 0), "lost"), (("few", 2), "won")], programs)


def least_lines():
    return ["board 1", "way a", "kind b", "program b 0 = rest", "program b 1 = rest"]


def parts_of(game):
    return (game.board.size, game.board.ways, game.kinds, game.clauses, game.programs)


class GameTest(unittest.TestCase):
    def check_same(self, text):
        self.assertEqual(parts_of(read_game(text)), parts_of(whole_game()))

    def test_ordinary_game(self):
        game = read_game(whole_text())
        self.assertIsInstance(game, Game)
        self.assertIsInstance(game.board, Board)
        self.assertEqual(parts_of(game), parts_of(whole_game()))
        self.assertIs(same_game(game, whole_game()), True)
        self.assertIs(is_let_by(game), True)

    def test_forms_of_the_parts(self):
        game = read_game(whole_text())
        self.assertEqual([type(way) for way in game.board.ways], [tuple, tuple])
        self.assertEqual([type(leads) for _, leads in game.board.ways], [list, list])
        self.assertEqual([type(pair) for pair in game.programs + game.clauses], [tuple] * 4)
        self.assertEqual(type(game.programs[0][0][1][1]), list)

    def test_least_game(self):
        expected = (1, [("a", [-1])], ["b"], [], [(("rest",), ("rest",))])
        self.assertEqual(parts_of(read_game(text_of(least_lines()))), expected)

    def test_without_the_last_newline(self):
        self.check_same(whole_text()[:-1])
        self.assertEqual(read_game(text_of(least_lines())[:-1]).programs, [(("rest",), ("rest",))])

    def test_with_empty_lines_and_lines_of_spaces(self):
        self.check_same("\n" + whole_text())
        self.check_same(whole_text() + "\n\n")
        self.check_same(whole_text() + "   ")
        self.check_same("\n\n".join(LINES))
        self.check_same("\n    \n\n".join(LINES) + "\n")

    def test_with_other_spaces(self):
        self.check_same(text_of(["   " + line for line in LINES]))
        self.check_same(text_of([line + "   " for line in LINES]))
        self.check_same(text_of([line.replace(" ", "    ") for line in LINES]))
        loose = [line.replace("(", " ( ").replace(")", " ) ").replace(",", " , ").replace("=", " = ") for line in LINES]
        self.check_same(text_of(loose))

    def test_with_as_few_spaces_as_can_be(self):
        lines = list(LINES)
        lines[5] = "program man 0=any(row(go east,empty))"
        lines[6] = "program man 1=row(go west,foe,take,go west,empty)"
        lines[0] = "board4"
        lines[1] = "way east0 1 2 3"
        lines[10] = "clause won if few2"
        self.check_same(text_of(lines))

    def test_texts_are_not_shared(self):
        first = read_game(whole_text())
        first.kinds.append("more")
        first.board.ways[0][1][0] = 3
        first.clauses.clear()
        first.programs[1][0][1].append(("rest",))
        self.check_same(whole_text())

    def test_a_way_and_a_kind_may_share_a_name(self):
        lines = ["board 1", "way b", "kind b", "program b 0 = go b", "program b 1 = at b"]
        self.assertEqual(read_game(text_of(lines)).programs, [(("go", 0), ("at", 0))])


class WaysTest(unittest.TestCase):
    def leads(self, rows):
        return read_game(with_line(2, "way east" + rows)).board.ways[0]

    def test_rows(self):
        cases = {
            "": [-1, -1, -1, -1],
            " 2": [-1, -1, -1, -1],
            " 0 1": [1, -1, -1, -1],
            " 3 2 1 0": [-1, 0, 1, 2],
            " 0 1 2 3 0": [1, 2, 3, 0],
            " 0 0": [0, -1, -1, -1],
            " 0 0; 1 1; 3 3; 2 2": [0, 1, 2, 3],
            " 0 1;2 3": [1, -1, 3, -1],
            " 0 2 ; 1 2 ; 2 3": [2, 2, 3, -1],
            " 2 3; 0 2; 1 2": [2, 2, 3, -1],
            " 0 1 0": [1, 0, -1, -1],
            " 0; 0; 0 1; 0": [1, -1, -1, -1],
            " 0 1; 2 0": [1, -1, 0, -1],
            " 0 1 2 0; 3 1": [1, 2, 0, 1],
        }
        for rows, expected in cases.items():
            with self.subTest(rows=rows):
                self.assertEqual(self.leads(rows), ("east", expected))

    def test_greatest_board(self):
        fields = " ".join([str(field) for field in range(24)])
        lines = ["board 24", "way round " + fields + " 0"] + least_lines()[2:]
        self.assertEqual(read_game(text_of(lines)).board.ways, [("round", list(range(1, 24)) + [0])])

    def test_each_number_of_ways(self):
        for number in range(1, 9):
            names = ["way" + letter for letter in "abcdefgh"[:number]]
            lines = ["board 1"] + ["way " + name for name in names] + least_lines()[2:]
            self.assertEqual(read_game(text_of(lines)).board.ways, [(name, [-1]) for name in names])

    def test_each_number_of_kinds(self):
        for number in range(1, 7):
            names = ["kind" + letter for letter in "abcdef"[:number]]
            lines = ["board 1", "way a"] + ["kind " + name for name in names]
            lines = lines + [f"program {name} {side} = lay {name}" for name in names for side in (0, 1)]
            game = read_game(text_of(lines))
            self.assertEqual(game.kinds, names)
            self.assertEqual(game.programs, [(("lay", kind), ("lay", kind)) for kind in range(number)])

    def test_each_number_of_clauses(self):
        for number in range(0, 13):
            clauses = [f"clause drawn if few {n}" for n in range(number)]
            game = read_game(text_of(least_lines() + clauses))
            self.assertEqual(game.clauses, [(("few", n), "drawn") for n in range(number)])

    def test_longest_names(self):
        lines = ["board 1", "way abcdefghijkl", "kind zzzzzzzzzzzz", "program zzzzzzzzzzzz 0 = go abcdefghijkl"]
        game = read_game(text_of(lines + ["program zzzzzzzzzzzz 1 = rest"]))
        self.assertEqual((game.board.ways[0][0], game.kinds), ("abcdefghijkl", ["zzzzzzzzzzzz"]))


class ProgramsTest(unittest.TestCase):
    def check(self, text, expected):
        game = read_game(with_line(9, "program king 1 = " + text))
        self.assertEqual(game.programs[1][1], expected)

    def test_each_form(self):
        cases = {
            "go east": ("go", 0), "go west": ("go", 1), "empty": ("empty",), "own": ("own",), "foe": ("foe",),
            "at man": ("at", 0), "at king": ("at", 1), "take": ("take",), "lay man": ("lay", 0),
            "lay king": ("lay", 1), "rest": ("rest",), "row()": ("row", []), "either()": ("either", []),
            "row(take)": ("row", [("take",)]), "either(own)": ("either", [("own",)]), "any(foe)": ("any", ("foe",)),
            "row(go east, take, own)": ("row", [("go", 0), ("take",), ("own",)]),
            "either(row(), either(), any(row()))": ("either", [("row", []), ("either", []), ("any", ("row", []))]),
        }
        for text, expected in cases.items():
            with self.subTest(text=text):
                self.check(text, expected)

    def test_deepest(self):
        self.check("any(" * 7 + "rest" + ")" * 7, nested(("rest",), 7))
        self.check("any(" * 7 + "row()" + ")" * 7, nested(("row", []), 7))

    def test_most_parts(self):
        self.check("row(" + ", ".join(["take"] * 59) + ")", ("row", [("take",)] * 59))
        self.check("row(" + ", ".join(["any(own)"] * 29 + ["row()"]) + ")",
                   ("row", [("any", ("own",))] * 29 + [("row", [])]))

    def test_parts_are_counted_for_each_program_alone(self):
        long = "row(" + ", ".join(["take"] * 59) + ")"
        lines = [line.split("=")[0] + "= " + long if line.startswith("program") else line for line in LINES]
        self.assertEqual(read_game(text_of(lines)).programs, [(("row", [("take",)] * 59),) * 2] * 2)


def nested(program, times):
    for _ in range(times):
        program = ("any", program)
    return program


class ClausesTest(unittest.TestCase):
    def check(self, text, expected):
        self.assertEqual(read_game(with_more("clause drawn if " + text)).clauses[-1], (expected, "drawn"))

    def test_each_result(self):
        for result in ("won", "lost", "drawn"):
            game = read_game(with_more(f"clause {result} if stuck"))
            self.assertEqual(game.clauses[-1], (("stuck",), result))

    def test_each_form(self):
        cases = {
            "lacks man": ("lacks", 0), "lacks king": ("lacks", 1), "foelacks king": ("foelacks", 1),
            "holds man on 0": ("holds", 0, [0]), "holds king on 0 1 2 3": ("holds", 1, [0, 1, 2, 3]),
            "foeholds man on 1 3": ("foeholds", 0, [1, 3]), "stuck": ("stuck",), "few 0": ("few", 0),
            "few 999999": ("few", 999999), "not(stuck)": ("not", ("stuck",)),
            "and(stuck, few 1)": ("and", ("stuck",), ("few", 1)),
            "or(holds man on 1 2, not(stuck))": ("or", ("holds", 0, [1, 2]), ("not", ("stuck",))),
        }
        for text, expected in cases.items():
            with self.subTest(text=text):
                self.check(text, expected)

    def test_deepest(self):
        expected = ("few", 3)
        for _ in range(7):
            expected = ("not", expected)
        self.check("not(" * 7 + "few 3" + ")" * 7, expected)

    def test_conditions_may_have_many_parts(self):
        text, expected = "stuck", ("stuck",)
        for _ in range(7):
            text, expected = f"and({text}, {text})", ("and", expected, expected)
        self.check(text, expected)


class LengthTest(unittest.TestCase):
    def padded(self, length):
        return whole_text() + " " * (length - len(whole_text()))

    def test_longest_text(self):
        self.assertIs(same_game(read_game(self.padded(20000)), whole_game()), True)

    def test_longer_texts(self):
        for text in (self.padded(20001), "!" * 20001, "\n" * 20001, self.padded(50000)):
            with self.assertRaises(TooLarge) as caught:
                read_game(text)
            self.assertEqual(caught.exception.limit, "text")

    def test_wrong_text_of_greatest_length(self):
        with self.assertRaises(TextError) as caught:
            read_game("!" * 20000)
        self.assertEqual(caught.exception.reason, "character")


if __name__ == "__main__":
    unittest.main()
