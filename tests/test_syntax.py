"""Promises 3, 5, 13 and 14: names, boards and games, and when a game is let by."""

import copy
import unittest

from skewer.syntax import Board, Game, is_let_by, is_name, same_game
from tests.games import board_of, game_of, hop, lacks_or_holds, ride, still, ways_of, with_condition, with_program

KEY_WORDS = (
    "board way kind program clause drop if won lost drawn go empty own foe at take lay rest row either any lacks "
    "holds on foelacks foeholds stuck few not and or nowhere turn"
).split()


def parts_of(game):
    board = game.board
    return (board.size, board.ways, game.kinds, game.clauses, game.programs)


def nested(whole, times, make):
    """What is got by making a thing with the thing so far inside it, so many times."""
    for _ in range(times):
        whole = make(whole)
    return whole


class NamesTest(unittest.TestCase):
    def test_names(self):
        for word in ("a", "z", "man", "east", "abcdefghijkl", "zzzzzzzzzzzz", "goes", "boards", "o", "ands", "wo"):
            with self.subTest(word=word):
                self.assertIs(is_name(word), True)

    def test_each_small_letter(self):
        for letter in "abcdefghijklmnopqrstuvwxyz":
            self.assertIs(is_name(letter), True)

    def test_lengths(self):
        for length in range(1, 13):
            self.assertIs(is_name("a" * length), True)
        for length in (0, 13, 14, 100):
            self.assertIs(is_name("a" * length), False)

    def test_key_words(self):
        self.assertEqual(len(KEY_WORDS), 33)
        for word in KEY_WORDS:
            with self.subTest(word=word):
                self.assertIs(is_name(word), False)
                self.assertIs(is_name(word + "x"), True)

    def test_other_characters(self):
        words = ["Man", "MAN", "maN", "man0", "0", "m n", " man", "man ", "man\n", "\n", " ", "m-n", "m_n", "."]
        words = words + ["m\u00e4n", "\u00e4", "\u03b1", "man\u00df", "\u00aa", "\u0131"]
        for word in words:
            with self.subTest(word=word):
                self.assertIs(is_name(word), False)


class AttributesTest(unittest.TestCase):
    def test_of_a_board(self):
        board = Board(4, [("east", [1, 2, 3, -1])])
        self.assertEqual((board.size, board.ways), (4, [("east", [1, 2, 3, -1])]))

    def test_of_a_game(self):
        board = board_of()
        game = Game(board, ["man"], [(("lacks", 0), "lost")], [(ride(), still())])
        self.assertIs(game.board, board)
        self.assertEqual(game.kinds, ["man"])
        self.assertEqual(game.clauses, [(("lacks", 0), "lost")])
        self.assertEqual(game.programs, [(ride(), still())])

    def test_arguments_by_name(self):
        board = Board(size=1, ways=[("east", [-1])])
        game = Game(board=board, kinds=["man"], clauses=[], programs=[(still(), still())])
        self.assertEqual(parts_of(game), (1, [("east", [-1])], ["man"], [], [(still(), still())]))

    def test_kinds_of_values_stay(self):
        game = game_of()
        self.assertEqual([type(way) for way in game.board.ways], [tuple, tuple])
        self.assertEqual([type(row) for _, row in game.board.ways], [list, list])
        self.assertEqual([type(pair) for pair in game.programs + game.clauses], [tuple] * 4)
        self.assertEqual(game.programs[0][1], hop())
        self.assertEqual(game.clauses[0], (lacks_or_holds(), "lost"))


class CopiesTest(unittest.TestCase):
    def test_lists_of_a_board_can_be_changed_afterwards(self):
        ways = ways_of()
        board = Board(4, ways)
        ways[0][1][0] = 3
        ways[1][1].append(7)
        ways.pop()
        self.assertEqual(board.ways, ways_of())

    def test_lists_of_a_game_can_be_changed_afterwards(self):
        kinds = ["man", "king"]
        clauses = [(lacks_or_holds(), "lost")]
        programs = [(ride(), hop()), (still(), still())]
        game = Game(board_of(), kinds, clauses, programs)
        kinds[0] = "rook"
        clauses.append((("stuck",), "won"))
        programs.pop()
        self.assertEqual(game.kinds, ["man", "king"])
        self.assertEqual(game.clauses, [(lacks_or_holds(), "lost")])
        self.assertEqual(game.programs, [(ride(), hop()), (still(), still())])

    def test_lists_inside_programs_and_conditions_can_be_changed_afterwards(self):
        row = [("go", 0), ("any", ("row", [("empty",)]))]
        fields = [0, 3]
        game = Game(board_of(), ["man"], [(("not", ("holds", 0, fields)), "won")], [(("row", row), ("either", row))])
        row[1][1][1].append(("foe",))
        row.append(("take",))
        fields.append(1)
        expected = [("go", 0), ("any", ("row", [("empty",)]))]
        self.assertEqual(game.programs, [(("row", expected), ("either", expected))])
        self.assertEqual(game.clauses, [(("not", ("holds", 0, [0, 3])), "won")])

    def test_two_games_of_the_same_lists_share_none(self):
        kinds = ["man", "king"]
        game, other = game_of(kinds=kinds), game_of(kinds=kinds)
        game.kinds.append("rook")
        self.assertEqual((kinds, other.kinds), (["man", "king"], ["man", "king"]))

    def test_making_changes_nothing_that_was_passed(self):
        passed = [ways_of(), ["man", "king"], [(lacks_or_holds(), "lost")], [(ride(), hop()), (still(), still())]]
        before = copy.deepcopy(passed)
        Game(Board(4, passed[0]), passed[1], passed[2], passed[3])
        self.assertEqual(passed, before)

    def test_asking_changes_nothing_that_was_passed(self):
        game, other = game_of(), game_of(kinds=["man", "man"])
        before = copy.deepcopy((parts_of(game), parts_of(other)))
        is_let_by(game)
        is_let_by(other)
        same_game(game, other)
        self.assertEqual((parts_of(game), parts_of(other)), before)

    def test_far_too_deep_programs_can_be_made_part_of_a_game(self):
        for make in (lambda program: ("any", program), lambda program: ("row", [program])):
            game = with_program(nested(still(), 3000, make))
            self.assertIs(is_let_by(game), False)
        game = with_condition(nested(("stuck",), 3000, lambda condition: ("not", condition)))
        self.assertIs(is_let_by(game), False)


class SameGameTest(unittest.TestCase):
    def test_equal_games(self):
        game = game_of()
        self.assertIs(same_game(game, game), True)
        self.assertIs(same_game(game, game_of()), True)
        self.assertIs(same_game(game_of(clauses=[]), game_of(clauses=[])), True)

    def test_games_that_part_in_one_part(self):
        size_alone = board_of(5, ways_of(4))
        others = {
            "size": game_of(board=size_alone),
            "name of a way": game_of(board=board_of(4, [("north", ways_of()[0][1]), ways_of()[1]])),
            "field of a way": game_of(board=board_of(4, [("east", [1, 2, 3, 0]), ways_of()[1]])),
            "order of the ways": game_of(board=board_of(4, ways_of()[::-1])),
            "number of the ways": game_of(board=board_of(4, ways_of()[:1])),
            "name of a kind": game_of(kinds=["man", "queen"]),
            "order of the kinds": game_of(kinds=["king", "man"]),
            "number of the kinds": game_of(kinds=["man"]),
            "condition": game_of(clauses=[(lacks_or_holds(), "lost"), (("few", 3), "drawn")]),
            "result": game_of(clauses=[(lacks_or_holds(), "lost"), (("few", 2), "won")]),
            "order of the clauses": game_of(clauses=[(("few", 2), "drawn"), (lacks_or_holds(), "lost")]),
            "number of the clauses": game_of(clauses=[(lacks_or_holds(), "lost")]),
            "program of side 0": game_of(programs=[(ride(), hop()), (("take",), ("own",))]),
            "program of side 1": game_of(programs=[(ride(), hop()), (still(), ("foe",))]),
            "order of the sides": game_of(programs=[(ride(), hop()), (("own",), still())]),
            "number of the programs": game_of(programs=[(ride(), hop())]),
        }
        for part, other in others.items():
            with self.subTest(part=part):
                self.assertIs(same_game(game_of(), other), False)
                self.assertIs(same_game(other, game_of()), False)
                self.assertIs(same_game(other, other), True)

    def test_inner_parts(self):
        game = with_condition(("holds", 0, [1, 2]))
        self.assertIs(same_game(game, with_condition(("holds", 0, [1, 2]))), True)
        self.assertIs(same_game(game, with_condition(("holds", 0, [1, 3]))), False)
        self.assertIs(same_game(game, with_condition(("holds", 1, [1, 2]))), False)
        game = with_program(("row", [("go", 0), ("lay", 1)]))
        self.assertIs(same_game(game, with_program(("row", [("go", 0), ("lay", 1)]))), True)
        self.assertIs(same_game(game, with_program(("row", [("go", 0), ("lay", 0)]))), False)
        self.assertIs(same_game(game, with_program(("either", [("go", 0), ("lay", 1)]))), False)


class LetByTest(unittest.TestCase):
    def accept(self, game):
        self.assertIs(is_let_by(game), True)

    def refuse(self, game):
        self.assertIs(is_let_by(game), False)


class BoardsLetByTest(LetByTest):
    def test_ordinary_game(self):
        self.accept(game_of())

    def test_size(self):
        for size in (1, 2, 23, 24):
            with self.subTest(size=size):
                self.accept(game_of(board=board_of(size), clauses=[]))
        for size in (25, 26, 100):
            with self.subTest(size=size):
                self.refuse(game_of(board=board_of(size), clauses=[]))
        for size in (0, -1, -24):
            with self.subTest(size=size):
                self.refuse(game_of(board=Board(size, [("east", []), ("west", [])]), clauses=[]))

    def test_number_of_ways(self):
        row = [1, 2, 3, -1]
        names = "abcdefghi"
        for number in range(2, 9):
            self.accept(game_of(board=board_of(4, [(name, row) for name in names[:number]])))
        self.refuse(game_of(board=board_of(4, [(name, row) for name in names])))
        programs = [(("rest",), ("rest",)), (("rest",), ("rest",))]
        self.accept(game_of(board=board_of(4, [("a", row)]), programs=programs))
        self.refuse(game_of(board=board_of(4, []), programs=programs))

    def test_lengths_of_rows(self):
        for row in ([1, 2, 3], [1, 2, 3, -1, -1], [], [-1]):
            with self.subTest(row=row):
                self.refuse(game_of(board=board_of(4, [("east", [1, 2, 3, -1]), ("west", row)])))
                self.refuse(game_of(board=board_of(4, [("west", row), ("east", [1, 2, 3, -1])])))

    def test_fields_of_rows(self):
        for row in ([-1, -1, -1, -1], [0, 0, 0, 0], [3, 3, 3, 3], [0, 1, 2, 3]):
            with self.subTest(row=row):
                self.accept(game_of(board=board_of(4, [("east", [1, 2, 3, -1]), ("west", row)])))
        for row in ([4, 0, 1, 2], [-1, 0, 1, 4], [-2, 0, 1, 2], [-1, 0, -2, 2], [0, 99, 0, 0]):
            with self.subTest(row=row):
                self.refuse(game_of(board=board_of(4, [("east", [1, 2, 3, -1]), ("west", row)])))

    def test_names_of_ways(self):
        row = [1, 2, 3, -1]
        for name in ("a", "abcdefghijkl", "man", "king"):
            with self.subTest(name=name):
                self.accept(game_of(board=board_of(4, [("east", row), (name, row)])))
        for name in ["", "abcdefghijklm", "West", "we st", "west1", "m\u00e4n", "east"] + KEY_WORDS:
            with self.subTest(name=name):
                self.refuse(game_of(board=board_of(4, [("east", row), (name, row)])))
                self.refuse(game_of(board=board_of(4, [(name, row), ("east", row)])))

    def test_ways_that_are_no_pairs(self):
        row = [1, 2, 3, -1]
        for way in ((), ("west",), ("west", row, row), ["west", row], "we", 7, None):
            with self.subTest(way=way):
                self.refuse(game_of(board=board_of(4, [("east", row), way])))
                self.refuse(game_of(board=board_of(4, [way, ("east", row)])))

    def test_same_name_twice_among_ways_that_are_not_neighbours(self):
        row = [1, 2, 3, -1]
        self.refuse(game_of(board=board_of(4, [("east", row), ("west", row), ("east", row)])))


class KindsLetByTest(LetByTest):
    def test_number_of_kinds(self):
        for number in range(1, 7):
            programs = [(still(), still())] * number
            self.accept(game_of(kinds=list("abcdef"[:number]), clauses=[], programs=programs))
        self.refuse(game_of(kinds=list("abcdefg"), clauses=[], programs=[(still(), still())] * 7))
        self.refuse(game_of(kinds=[], clauses=[], programs=[]))

    def test_names_of_kinds(self):
        for name in ("a", "abcdefghijkl", "east", "west"):
            with self.subTest(name=name):
                self.accept(game_of(kinds=["man", name]))
        for name in ["", "abcdefghijklm", "King", "ki ng", "king1", "k\u00f6nig", "man"] + KEY_WORDS:
            with self.subTest(name=name):
                self.refuse(game_of(kinds=["man", name]))
                self.refuse(game_of(kinds=[name, "man"]))

    def test_same_name_twice_among_kinds_that_are_not_neighbours(self):
        programs = [(still(), still())] * 3
        self.accept(game_of(kinds=["man", "king", "men"], programs=programs))
        self.refuse(game_of(kinds=["man", "king", "man"], programs=programs))

    def test_number_of_programs(self):
        pair = (still(), still())
        self.accept(game_of(programs=[pair, pair]))
        for programs in ([], [pair], [pair, pair, pair]):
            self.refuse(game_of(programs=programs))
        for wrong in ((still(),), (still(), still(), still()), (), [still(), still()], 0, None):
            self.refuse(game_of(programs=[pair, wrong]))
            self.refuse(game_of(programs=[wrong, pair]))


class ProgramsLetByTest(LetByTest):
    def test_each_form(self):
        forms = [
            ("go", 0), ("go", 1), ("empty",), ("own",), ("foe",), ("at", 0), ("at", 1), ("take",), ("lay", 0),
            ("lay", 1), ("rest",), ("row", []), ("row", [("go", 1)]), ("row", [("take",), ("foe",), ("own",)]),
            ("either", []), ("either", [("rest",)]), ("either", [("rest",), ("any", ("go", 0))]), ("any", ("rest",)),
        ]
        for program in forms:
            with self.subTest(program=program):
                self.accept(with_program(program))
                self.accept(with_program(("row", [("foe",), ("any", program)])))
                self.accept(with_program(("either", [program, ("foe",)])))

    def test_wrong_forms(self):
        forms = [
            (), ("jump",), ("jump", 0), ("go",), ("go", 0, 1), ("go", "east"), ("go", ("empty",)), ("empty", 0),
            ("own", 0), ("foe", 0), ("take", 0), ("rest", 0), ("at",), ("at", 0, 1), ("at", "man"), ("lay",),
            ("lay", 0, 1), ("lay", [0]), ("row",), ("row", ("go", 0)), ("row", ("go", 0), ("go", 1)), ("row", 0),
            ("either",), ("either", ("go", 0)), ("either", [], []), ("any",), ("any", []), ("any", [("go", 0)]),
            ("any", ("go", 0), ("go", 1)), ("lacks", 0), ("stuck",), ("not", ("rest",)), ("few", 2),
            ["rest"], "rest", 0, None, ("GO", 0), ("row", [0]), ("row", ["rest"]), ("either", [[]]), ("go", True),
        ]
        for program in forms:
            with self.subTest(program=program):
                self.refuse(with_program(program))
                self.refuse(with_program(("row", [("foe",), ("any", program)])))
                self.refuse(with_program(("either", [program, ("foe",)])))
                self.refuse(game_of(programs=[(program, still()), (still(), still())]))

    def test_numbers_of_ways_and_kinds(self):
        for word in ("go", "at", "lay"):
            for number in (-1, 2, 3, 99, -99):
                with self.subTest(word=word, number=number):
                    self.refuse(with_program((word, number)))
                    self.refuse(with_program(("any", ("either", [("rest",), (word, number)]))))

    def test_ways_and_kinds_are_not_taken_for_each_other(self):
        row = [1, 2, 3, -1]
        three_ways = board_of(4, [("a", row), ("b", row), ("c", row)])
        self.accept(game_of(board=three_ways, programs=[(("go", 2), still()), (still(), still())]))
        self.refuse(game_of(board=three_ways, programs=[(("at", 2), still()), (still(), still())]))
        three_kinds = [(still(), still()), (still(), still()), (still(), ("lay", 2))]
        self.accept(game_of(kinds=["man", "king", "rook"], programs=three_kinds))
        three_kinds = [(still(), still()), (still(), still()), (still(), ("go", 2))]
        self.refuse(game_of(kinds=["man", "king", "rook"], programs=three_kinds))

    def test_number_of_parts(self):
        for word in ("row", "either"):
            self.accept(with_program((word, [("rest",)] * 59)))
            self.refuse(with_program((word, [("rest",)] * 60)))
            self.refuse(with_program((word, [("rest",)] * 500)))

    def test_number_of_parts_deeper_inside(self):
        # 1 for the row, 1 for the other row and its 56 parts, 2 for any and its part.
        self.accept(with_program(("row", [("either", [("empty",)] * 56), ("any", ("rest",))])))
        self.refuse(with_program(("row", [("either", [("empty",)] * 57), ("any", ("rest",))])))

    def test_parts_are_counted_for_each_program_alone(self):
        most = ("row", [("rest",)] * 59)
        self.accept(game_of(programs=[(most, most), (most, most)]))
        more = ("row", [("rest",)] * 60)
        for programs in ([(more, most), (most, most)], [(most, more), (most, most)], [(most, most), (more, most)]):
            self.refuse(game_of(programs=programs))

    def test_depth(self):
        makers = [
            lambda program: ("any", program),
            lambda program: ("row", [program]),
            lambda program: ("either", [program]),
            lambda program: ("row", [("rest",), program]),
        ]
        for make in makers:
            self.accept(with_program(nested(still(), 7, make)))
            self.refuse(with_program(nested(still(), 8, make)))
            self.refuse(with_program(nested(still(), 20, make)))
            self.accept(with_program(nested(("row", []), 7, make)))
            self.refuse(with_program(nested(("row", []), 8, make)))


class ClausesLetByTest(LetByTest):
    def test_number_of_clauses(self):
        clause = (("stuck",), "lost")
        for number in (0, 1, 11, 12):
            self.accept(game_of(clauses=[clause] * number))
        for number in (13, 14, 50):
            self.refuse(game_of(clauses=[clause] * number))

    def test_results(self):
        for result in ("won", "lost", "drawn"):
            self.accept(game_of(clauses=[(("stuck",), result)]))
        for result in ("", "win", "Won", "stuck", "wo", "won "):
            with self.subTest(result=result):
                self.refuse(game_of(clauses=[(("stuck",), result)]))
                self.refuse(game_of(clauses=[(("stuck",), "won"), (("stuck",), result)]))

    def test_clauses_that_are_no_pairs(self):
        for clause in ((), (("stuck",),), (("stuck",), "won", "lost"), [("stuck",), "won"], ("stuck",), 0, None):
            self.refuse(game_of(clauses=[clause]))

    def test_each_form(self):
        forms = [
            ("lacks", 0), ("lacks", 1), ("holds", 0, [0]), ("holds", 1, [3]), ("holds", 1, [0, 1, 2, 3]),
            ("foelacks", 0), ("foelacks", 1), ("foeholds", 0, [1, 3]), ("foeholds", 1, [2]), ("stuck",), ("few", 0),
            ("few", 5), ("not", ("stuck",)), ("and", ("stuck",), ("few", 1)), ("or", ("lacks", 0), ("lacks", 1)),
        ]
        for condition in forms:
            with self.subTest(condition=condition):
                self.accept(with_condition(condition))
                self.accept(with_condition(("not", condition)))
                self.accept(with_condition(("and", condition, ("stuck",))))
                self.accept(with_condition(("or", ("stuck",), condition)))

    def test_wrong_forms(self):
        forms = [
            (), ("has", 0), ("never",), ("lacks",), ("lacks", 0, 1), ("lacks", 0, [1]), ("lacks", "man"),
            ("foelacks",), ("foelacks", 0, [1]), ("holds",), ("holds", 0), ("holds", 0, 1), ("holds", 0, (0, 1)),
            ("holds", 0, [0], [1]), ("holds", [0], 0), ("foeholds",), ("foeholds", 0), ("foeholds", 0, 1),
            ("foeholds", 0, [0], [1]), ("stuck", 0), ("few",), ("few", "two"), ("few", 1, 2), ("few", [1]), ("not",),
            ("not", ("stuck",), ("stuck",)), ("not", ("stuck",), ("few", 1), ("few", 2)), ("not", []),
            ("not", "stuck"), ("and",), ("and", ("stuck",)),
            ("and", ("stuck",), ("stuck",), ("stuck",)), ("or",), ("or", ("stuck",)),
            ("or", ("stuck",), ("stuck",), ("stuck",)), ("or", [("stuck",), ("stuck",)]), ("empty",),
            ("any", ("stuck",)), ["stuck"], "stuck", 0, None, ("few", True), ("lacks", False),
        ]
        for condition in forms:
            with self.subTest(condition=condition):
                self.refuse(with_condition(condition))
                self.refuse(with_condition(("not", condition)))
                self.refuse(with_condition(("and", condition, ("stuck",))))
                self.refuse(with_condition(("or", ("stuck",), condition)))
                self.refuse(game_of(clauses=[(condition, "won"), (("stuck",), "won")]))

    def test_numbers_of_kinds(self):
        for kind in (-1, 2, 3, 99):
            for condition in (("lacks", kind), ("foelacks", kind), ("holds", kind, [0]), ("foeholds", kind, [0])):
                with self.subTest(condition=condition):
                    self.refuse(with_condition(condition))
                    self.refuse(with_condition(("and", ("stuck",), ("not", condition))))

    def test_fields(self):
        wrong = [
            [], [4], [-1], [0, 4], [-1, 0], [1, 0], [1, 1], [0, 1, 1], [0, 2, 1], [3, 2, 1, 0], [0, 99], [0, 0],
            ["0"], [[0]], [False, 1], [0, None],
        ]
        for fields in wrong:
            for word in ("holds", "foeholds"):
                with self.subTest(word=word, fields=fields):
                    self.refuse(with_condition((word, 0, fields)))
                    self.refuse(with_condition(("not", (word, 0, fields))))

    def test_numbers_of_few(self):
        for number in (0, 1, 24, 25, 999998, 999999):
            with self.subTest(number=number):
                self.accept(with_condition(("few", number)))
                self.accept(with_condition(("not", ("few", number))))
        for number in (-1, -999999, 1000000, 1000001, 10 ** 30):
            with self.subTest(number=number):
                self.refuse(with_condition(("few", number)))
                self.refuse(with_condition(("not", ("few", number))))

    def test_depth(self):
        makers = [
            lambda condition: ("not", condition),
            lambda condition: ("and", condition, ("stuck",)),
            lambda condition: ("and", ("stuck",), condition),
            lambda condition: ("or", condition, ("stuck",)),
            lambda condition: ("or", ("stuck",), condition),
            lambda condition: ("and", condition, condition),
        ]
        for make in makers:
            for inmost in (("stuck",), ("few", 3), ("lacks", 1), ("holds", 0, [0, 3])):
                self.accept(with_condition(nested(inmost, 7, make)))
                self.refuse(with_condition(nested(inmost, 8, make)))
                self.refuse(with_condition(nested(inmost, 9, make)))

    def test_conditions_have_no_greatest_number_of_parts(self):
        many = nested(("stuck",), 7, lambda condition: ("or", condition, condition))
        self.accept(game_of(clauses=[(many, "won")] * 12))


if __name__ == "__main__":
    unittest.main()
