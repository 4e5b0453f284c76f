"""Promises 63 and 66: the lines that a desk obeys, their answers, and what is kept behind each of them."""

import copy
import unittest

from skewer.book import solve
from skewer.desk import Desk, answers_of
from skewer.edits import renew, touched
from skewer.errors import InvalidLine, SkewerError
from skewer.lines import best_line
from skewer.reader import edited, read_game, read_position
from skewer.report import changes_report
from skewer.runs import moves
from skewer.syntax import same_game
from skewer.writer import write_game, write_position
from tests.desks import DUEL, DUEL_ROOT, HUNT, HUNT_ROOT, desk_with, loaded_desk, solved_desk, text_lines, told_by
from tests.made import Maker, made_games, small_rings
from tests.slow import plain_book

START, LATER = (0, (1, 0, 2)), (1, (0, 1, 2))


def game_of(lines):
    return read_game("".join([line + "\n" for line in lines]))


class DraftTest(unittest.TestCase):
    def test_new_desk(self):
        self.assertEqual(told_by(Desk()), ([], None, None, []))

    def test_text(self):
        desk = Desk()
        lines = ["text board 3", "text", "text ", "text   spaces   stay ", "text ~!", "text text"]
        for number, line in enumerate(lines):
            self.assertEqual(desk.obey(line), [f"lines {number + 1}"])
        self.assertEqual(desk.lines(), lines)
        self.assertIsNone(desk.game())

    def test_a_hundred_lines(self):
        desk = Desk()
        for number in range(100):
            self.assertEqual(desk.obey("text"), [f"lines {number + 1}"])
        self.assertEqual(desk.obey("text"), ["refused full"])
        self.assertEqual(desk.obey("text board 3"), ["refused full"])
        self.assertEqual(desk.obey("drop"), ["dropped"])
        self.assertEqual(desk.obey("text board 3"), ["lines 1"])
        self.assertEqual(desk.lines(), ["text"] * 100 + ["drop", "text board 3"])

    def test_drop(self):
        desk = Desk()
        self.assertEqual(desk.obey("drop"), ["dropped"])
        desk.obey("text board 3")
        answers = [desk.obey(line) for line in ("drop", "drop", "text")]
        self.assertEqual(answers, [["dropped"], ["dropped"], ["lines 1"]])

    def test_drop_leaves_the_game(self):
        desk = solved_desk()
        told = told_by(desk)
        desk.obey("text board 3")
        desk.obey("drop")
        self.assertEqual(told_by(desk)[1:], told[1:])

    def test_rest_is_what_stands_behind_one_space(self):
        """Empty lines and spaces are left out when the draft is read, and columns are those of REST."""
        desk = Desk()
        for line in ("text ", "text", "text     board    3 ", "text way east 0 1 2", "text", "text way west 2 1 0",
                     "text kind man", "text program man 0 = row(go east , empty)", "text program man 1=rest", "text  "):
            desk.obey(line)
        self.assertEqual(desk.obey("load"), ["loaded 3 1"])
        desk.obey("text   kind man")
        self.assertEqual(desk.obey("load"), ["refused text 1 3 line"])


class LoadTest(unittest.TestCase):
    def test_loaded(self):
        desk = desk_with(text_lines(DUEL))
        self.assertEqual(desk.obey("load"), ["loaded 3 1"])
        self.assertTrue(same_game(desk.game(), game_of(DUEL)))
        self.assertEqual((desk.roots(), desk.book()), ([], None))
        kinds = ["board 2", "way east 0 1", "kind man", "kind king", "kind rook"]
        kinds = kinds + [f"program {kind} {side} = rest" for kind in ("man", "king", "rook") for side in (0, 1)]
        self.assertEqual(desk_with(text_lines(kinds)).obey("load"), ["loaded 2 3"])

    def test_the_draft_is_empty_then(self):
        desk = loaded_desk()
        self.assertEqual(desk.obey("load"), ["refused text 1 1 end"])
        self.assertEqual(desk.obey("text"), ["lines 1"])

    def test_another_game(self):
        """It has no roots and no book."""
        desk = solved_desk()
        for line in text_lines(HUNT):
            desk.obey(line)
        self.assertTrue(same_game(desk.game(), game_of(DUEL)))
        self.assertEqual(len(desk.book()), 2)
        self.assertEqual(desk.obey("load"), ["loaded 6 1"])
        self.assertTrue(same_game(desk.game(), game_of(HUNT)))
        self.assertEqual((desk.roots(), desk.book()), ([], None))
        self.assertEqual(desk.obey("root " + HUNT_ROOT), ["roots 1"])

    def test_refused(self):
        desk = solved_desk()
        for line in text_lines(DUEL[:4]):
            desk.obey(line)
        told = told_by(desk)
        self.assertEqual(desk.obey("load"), ["refused text 5 1 end"])
        self.assertEqual(told_by(desk), told)
        # The draft is still there.
        self.assertEqual(desk.obey("text program man 0 = row(go east, empty)"), ["lines 5"])
        self.assertEqual(desk.obey("text program man 1 = row(go east, ampty)"), ["lines 6"])
        self.assertEqual(desk.obey("load"), ["refused text 6 30 expected"])


class RootTest(unittest.TestCase):
    def test_roots(self):
        desk = loaded_desk()
        self.assertEqual(desk.obey("root turn 0 man0 . man1"), ["roots 1"])
        self.assertEqual(desk.obey("root turn 1 . . ."), ["roots 2"])
        self.assertEqual(desk.obey("root turn 0 . . ."), ["roots 3"])
        self.assertEqual(desk.roots(), [START, (1, (0, 0, 0)), (0, (0, 0, 0))])

    def test_there_is_no_book_any_more(self):
        desk = solved_desk()
        self.assertEqual(len(desk.book()), 2)
        self.assertEqual(desk.obey("root turn 1 man0 . man1"), ["roots 2"])
        self.assertIsNone(desk.book())
        self.assertEqual(desk.obey("value " + DUEL_ROOT), ["refused book"])
        self.assertEqual(desk.obey("solve"), ["solved 4"])
        self.assertEqual(desk.obey("value " + DUEL_ROOT), ["won 1 0-1"])

    def test_eight(self):
        desk = loaded_desk()
        rows = [f"{one} {other} {third}" for one in (".", "man0") for other in (".", "man1") for third in (".", "man0")]
        for number, row in enumerate(rows):
            self.assertEqual(desk.obey("root turn 0 " + row), [f"roots {number + 1}"])
        self.assertEqual(desk.obey("root turn 1 . . ."), ["refused full"])
        self.assertEqual(desk.obey("root turn 0 . . ."), ["refused twice"])
        self.assertEqual(desk.obey("root turn 0 . . x"), ["refused position 12 word"])
        self.assertEqual(len(desk.roots()), 8)


class SolveTest(unittest.TestCase):
    def test_solve(self):
        desk = desk_with(text_lines(HUNT) + ["load", "root " + HUNT_ROOT])
        self.assertIsNone(desk.book())
        self.assertEqual(desk.obey("solve"), ["solved 135"])
        self.assertEqual(desk.book(), solve(game_of(HUNT), [(0, (1, 1, 0, 2, 0, 0))]))
        self.assertEqual(desk.obey("solve"), ["solved 135"])

    def test_several_roots(self):
        desk = solved_desk(DUEL, DUEL_ROOT, "turn 1 man0 . man1", "turn 0 . . .")
        self.assertEqual(desk.book(), solve(game_of(DUEL), desk.roots()))
        self.assertEqual(len(desk.book()), 5)

    def test_no_roots(self):
        desk = loaded_desk()
        self.assertEqual(desk.obey("solve"), ["solved 0"])
        self.assertEqual(desk.book(), {})
        self.assertEqual(desk.obey("value " + DUEL_ROOT), ["refused book"])
        self.assertEqual(desk.obey("agree 1 0 " + DUEL_ROOT), ["refused book"])
        self.assertEqual(desk.obey("edit clause 0 drawn if few 2"), ["edited 0"])
        self.assertEqual(desk.book(), {})


class ValueTest(unittest.TestCase):
    def test_values(self):
        desk = solved_desk()
        self.assertEqual(desk.obey("value " + DUEL_ROOT), ["won 1 0-1"])
        self.assertEqual(desk.obey("value turn 1 . man0 man1"), ["lost 0"])

    def test_over(self):
        for result, expected in (("won", "won 0"), ("lost", "lost 0"), ("drawn", "drawn")):
            desk = solved_desk(DUEL + (f"clause {result} if few 2",), DUEL_ROOT)
            self.assertEqual(desk.obey("value " + DUEL_ROOT), [expected])

    def test_lines_of_several_moves(self):
        desk = solved_desk(HUNT)
        self.assertEqual(desk.obey("value " + HUNT_ROOT), [self.line_of(desk)])
        self.assertEqual(desk.obey("value " + HUNT_ROOT)[0].split(" ")[:3], ["won", "3", "0-5"])
        self.assertEqual(len(desk.obey("value " + HUNT_ROOT)[0].split(" ")), 5)

    def line_of(self, desk):
        """The value and the best line, each of its moves written in the position in which it is made."""
        game, book, position = desk.game(), desk.book(), (0, (1, 1, 0, 2, 0, 0))
        words = [book[position][0], str(book[position][1])]
        for start, stop, taken, _ in best_line(game, book, position):
            words.append(f"{start}-{stop}" + "".join([f"x{field}" for field in taken]))
        return " ".join(words)

    def test_a_man_that_becomes_another_kind(self):
        """Each move is written for the position in which it is made."""
        lines = ("board 6", "way east 0 1 2 3 4 5", "kind man", "kind king",
                 "program man 0 = row(go east, either(empty, row(foe, take)), lay king)", "program man 1 = either()",
                 "program king 0 = row(go east, either(empty, row(foe, take)))", "program king 1 = row(go east, empty)")
        root = "turn 0 man0 . . . king1 ."
        desk = solved_desk(lines, root)
        self.assertEqual(desk.obey("value " + root), ["won 3 0-1=king 4-5 1-2"])
        self.assertEqual(desk.obey("value turn 1 . king0 . . king1 ."), ["lost 2 4-5 1-2"])
        self.assertEqual(desk.obey("moves " + root), ["0-1=king"])
        self.assertEqual(desk.obey("moves turn 0 man0 king1 . man1 . ."), ["0-1x1=king"])
        self.assertEqual(desk.obey("moves turn 0 king0 king1 . man1 . ."), ["0-1x1"])

    def test_drawn(self):
        lines = ("board 4", "way round 0 1 0; 2 3 2", "kind man", "program man 0 = go round",
                 "program man 1 = go round")
        desk = solved_desk(lines, "turn 0 man0 . man1 .")
        self.assertEqual(desk.obey("value turn 0 man0 . man1 ."), ["drawn"])

    def test_a_position_that_is_not_a_root(self):
        desk = solved_desk(HUNT)
        game, book = desk.game(), desk.book()
        for position in sorted(book)[::13]:
            answer = desk.obey("value " + write_position(game, position))
            self.assertEqual(answer[0].split(" ")[:len(book[position])], [str(part) for part in book[position]])


class MovesTest(unittest.TestCase):
    def test_moves(self):
        desk = loaded_desk(HUNT)
        self.assertEqual(desk.obey("moves " + HUNT_ROOT), ["0-5", "1-2"])
        self.assertEqual(desk.obey("moves turn 1 man0 man0 . man1 . ."), ["3-2", "3-4"])
        self.assertEqual(desk.obey("moves turn 0 man0 man1 . . . man1"), ["0-1x1", "0-5x5"])

    def test_no_move(self):
        desk = loaded_desk()
        self.assertEqual(desk.obey("moves turn 1 . man0 man1"), [])
        self.assertEqual(desk.lines()[-1], "moves turn 1 . man0 man1")

    def test_of_a_position_that_is_over(self):
        """Its moves are told, though no line goes on with them."""
        desk = loaded_desk(DUEL + ("clause drawn if few 2",))
        self.assertEqual(desk.obey("moves " + DUEL_ROOT), ["0-1"])


class EditTest(unittest.TestCase):
    def test_without_a_book(self):
        desk = loaded_desk()
        self.assertEqual(desk.obey("edit clause 0 drawn if few 2"), ["edited"])
        self.assertEqual(desk.game().clauses, [(("few", 2), "drawn")])
        desk.obey("root " + DUEL_ROOT)
        self.assertEqual(desk.obey("edit way east 0 nowhere"), ["edited"])
        self.assertEqual((desk.roots(), desk.book()), ([START], None))
        self.assertEqual(desk.game().board.ways[0], ("east", [-1, 2, -1]))

    def test_with_a_book(self):
        desk = solved_desk()
        self.assertEqual(desk.obey("edit clause 0 drawn if few 2"),
                         ["edited 1", "turn 0 man0 . man1 was won 1 is drawn"])
        self.assertEqual((desk.roots(), desk.book()), ([START], {START: ("drawn",)}))
        self.assertEqual(desk.obey("edit drop clause 0"), ["edited 2", "turn 0 man0 . man1 was drawn is won 1"])
        self.assertEqual(desk.book(), {START: ("won", 1), LATER: ("lost", 0)})

    def test_several_changes(self):
        desk = solved_desk()
        self.assertEqual(desk.obey("edit clause 0 drawn if foeholds man on 1"),
                         ["edited 2", "turn 0 man0 . man1 was won 1 is drawn",
                          "turn 1 . man0 man1 was lost 0 is drawn"])
        self.assertEqual(desk.obey("value " + DUEL_ROOT), ["drawn"])

    def test_an_edit_that_changes_nothing(self):
        desk = solved_desk(HUNT)
        told = told_by(desk)
        self.assertEqual(desk.obey("edit way east 5 0"), ["edited 0"])
        self.assertEqual(desk.obey("edit   way  west   0 5"), ["edited 0"])
        self.assertEqual(told_by(desk)[1:], told[1:])

    def test_touched_positions_without_a_change(self):
        """The root has a further next position, which is new, and the same value."""
        desk = solved_desk()
        program = "either(row(go east, empty), row(go east, go east, foe, take))"
        self.assertEqual(desk.obey("edit program man 0 = " + program), ["edited 2"])
        self.assertEqual(len(desk.book()), 3)

    def test_several_edits(self):
        desk = solved_desk(HUNT)
        game, book, roots = desk.game(), desk.book(), desk.roots()
        for edit in ("program man 1 = row(go east, empty)", "clause 0 lost if lacks man", "clause 0 won if few 2",
                     "way west 3 nowhere", "drop clause 0", "clause 0 drawn if holds man on 0 1"):
            new = edited(game, edit)
            renewed, changes = renew(game, new, book, roots)
            expected = [f"edited {len(touched(game, new, book, roots))}"] + changes_report(new, changes)
            self.assertEqual(desk.obey("edit " + edit), expected)
            self.assertTrue(same_game(desk.game(), new))
            self.assertEqual((desk.book(), desk.roots()), (renewed, roots))
            self.assertEqual(renewed, plain_book(new, roots))
            game, book = new, renewed


class GameTest(unittest.TestCase):
    def test_lines_of_the_text(self):
        self.assertEqual(loaded_desk().obey("game"), list(DUEL))
        self.assertEqual(loaded_desk(HUNT).obey("game"), write_game(game_of(HUNT)).split("\n")[:-1])

    def test_behind_an_edit(self):
        desk = loaded_desk()
        desk.obey("edit clause 0 drawn if   few 2")
        self.assertEqual(desk.obey("game"), list(DUEL) + ["clause drawn if few 2"])

    def test_the_draft_does_not_matter(self):
        desk = loaded_desk()
        desk.obey("text board 5")
        self.assertEqual(desk.obey("game"), list(DUEL))


class AgreeTest(unittest.TestCase):
    def test_no_lies(self):
        desk = solved_desk()
        self.assertEqual(desk.obey("agree 0 0 " + DUEL_ROOT), ["agreed won 1"])
        self.assertEqual(desk.obey("agree 999999 0 turn 1 . man0 man1"), ["agreed lost 0"])

    def test_lies(self):
        """The numbers r1 and r2 behind 0 are 11 and 530992; the positions are START and then LATER."""
        desk = solved_desk()
        self.assertEqual(desk.obey("agree 0 1 turn 1 . man0 man1"), ["agreed lost 0", "caught ann"])
        self.assertEqual(desk.obey("agree 0 1 " + DUEL_ROOT), ["agreed won 1"])
        # What ann says of START does not follow any more from what it says of LATER.
        self.assertEqual(desk.obey("agree 0 2 " + DUEL_ROOT), ["agreed won 1", "caught ann cid"])

    def test_drawn(self):
        desk = solved_desk(DUEL + ("clause drawn if few 2",), DUEL_ROOT)
        self.assertEqual(desk.obey("agree 5 9 " + DUEL_ROOT), ["agreed drawn", "caught ann cid"])
        self.assertEqual(desk.obey("agree 5 1 " + DUEL_ROOT), ["agreed drawn", "caught ann"])

    def test_it_is_the_value(self):
        """Promise 66."""
        desk = solved_desk(HUNT)
        game, book = desk.game(), desk.book()
        told = {}
        for number, position in enumerate(sorted(book)):
            word = write_position(game, position)
            answer = desk.obey(f"agree {number * 7919 % 1000000} {number} {word}")
            value = desk.obey("value " + word)[0].split(" ")[:len(book[position])]
            self.assertEqual(answer[0].split(" "), ["agreed"] + value)
            told[tuple(answer[1:])] = True
        self.assertEqual(set(told), {(), ("caught ann",), ("caught cid",), ("caught ann cid",)})


class EditedGamesTest(unittest.TestCase):
    def test_made_edits(self):
        """Promise 66: each value behind an edit is that of a book that is made anew."""
        maker = Maker(66)
        changed = 0
        for game in made_games(66, 60) + small_rings(maker, 90):
            roots = sorted({maker.position(game) for _ in range(2)})
            lines = text_lines(write_game(game).split("\n")[:-1])
            if max([len(line) for line in lines]) > 200:
                continue
            desk = desk_with(lines + ["load"] + ["root " + write_position(game, root) for root in roots] + ["solve"])
            for _ in range(3):
                old = desk.book()
                answer = desk.obey(self.made_edit(maker, desk.game()))
                fresh = plain_book(desk.game(), roots)
                self.assertEqual(desk.book(), fresh)
                expected = [f"{write_position(desk.game(), one)} was {self.words(old[one])} is {self.words(fresh[one])}"
                            for one in sorted(fresh) if one in old and old[one] != fresh[one]]
                self.assertEqual(answer[1:], expected)
                changed += expected != []
                self.check_values(desk, maker, fresh)
        self.assertGreater(changed, 60)

    def words(self, value):
        return " ".join([str(part) for part in value])

    def check_values(self, desk, maker, fresh):
        game = desk.game()
        for position in sorted(fresh)[::9]:
            word = write_position(game, position)
            words = desk.obey("value " + word)[0].split(" ")
            value = self.words(fresh[position])
            self.assertEqual(" ".join(words[:len(fresh[position])]), value)
            many = fresh[position][1] if len(fresh[position]) == 2 else 0
            self.assertEqual(len(words), len(fresh[position]) + many)
            agreed = desk.obey(f"agree {maker.below(1000000)} {maker.below(50)} {word}")
            self.assertEqual(agreed[0], "agreed " + value)
            self.assertEqual(len(desk.obey("moves " + word)), len(moves(game, position)))

    def made_edit(self, maker, game):
        size, kinds, what = game.board.size, game.kinds, maker.below(4)
        if what == 0:
            return f"edit way {maker.one_of(game.board.ways)[0]} {maker.below(size)} {maker.below(size)}"
        if what == 1:
            inner = maker.one_of(("row(foe, take)", "empty", "either(empty, row(foe, take))", "take"))
            way = maker.one_of(game.board.ways)[0]
            return f"edit program {maker.one_of(kinds)} {maker.below(2)} = row(go {way}, {inner})"
        if what == 2 and game.clauses:
            return f"edit drop clause {maker.below(len(game.clauses))}"
        result, kind = maker.one_of(("won", "lost", "drawn")), maker.one_of(kinds)
        condition = maker.one_of((f"few {maker.below(size)}", f"holds {kind} on {maker.below(size)}", "stuck",
                                  f"foeholds {kind} on {maker.below(size)}", f"lacks {kind}"))
        return f"edit clause {min(len(game.clauses), 11)} {result} if {condition}"


class KeptTest(unittest.TestCase):
    """What is returned is new, and changing it changes nothing in the desk."""

    def test_what_is_returned(self):
        desk = solved_desk(DUEL + ("clause drawn if few 1",), DUEL_ROOT)
        told = copy.deepcopy(told_by(desk))
        game = desk.game()
        game.board.size = 9
        game.board.ways[0][1][0] = 2
        game.board.ways.clear()
        game.kinds.append("king")
        game.clauses.clear()
        game.programs[0][0][1].clear()
        game.programs.clear()
        book = desk.book()
        book[START] = ("drawn",)
        del book[LATER]
        desk.roots().append(LATER)
        desk.lines().append("solve")
        desk.lines().clear()
        self.assertEqual(told_by(desk), told)
        self.assertEqual(desk.obey("value " + DUEL_ROOT), ["won 1 0-1"])
        self.assertEqual(desk.obey("game"), list(DUEL) + ["clause drawn if few 1"])

    def test_answers(self):
        desk = solved_desk()
        for line in ("game", "moves " + DUEL_ROOT, "value " + DUEL_ROOT, "edit clause 0 drawn if few 1", "load"):
            desk.obey(line).append("more")
        desk.obey("game").clear()
        self.assertEqual(desk.obey("game"), list(DUEL) + ["clause drawn if few 1"])
        self.assertEqual(desk.obey("moves " + DUEL_ROOT), ["0-1"])

    def test_what_was_returned_stays(self):
        desk = solved_desk()
        before = (desk.game(), desk.book(), desk.roots(), desk.lines())
        told = copy.deepcopy(before[1:])
        desk.obey("edit clause 0 drawn if few 2")
        desk.obey("root turn 0 . . .")
        self.assertEqual(before[1:], told)
        self.assertTrue(same_game(before[0], game_of(DUEL)))

    def test_lines(self):
        """Those that were obeyed, in order, also with an empty answer."""
        desk = Desk()
        first = text_lines(DUEL) + ["drop"]
        second = text_lines(DUEL) + ["load", "moves turn 0 . . .", "solve"]
        for line in first + ["load"] + second + ["solve x", "Solve", "", "game", "drop"]:
            desk.obey(line)
        self.assertEqual(desk.lines(), first + second + ["game", "drop"])
        # The lines that were obeyed give the same desk.
        self.assertEqual(told_by(desk_with(desk.lines())), told_by(desk))

    def test_desks_share_nothing(self):
        one, other = solved_desk(), solved_desk()
        told = told_by(other)
        one.obey("edit clause 0 drawn if few 2")
        one.obey("root turn 0 . . .")
        one.obey("text x")
        self.assertEqual(told_by(other), told)
        self.assertEqual(other.obey("text x"), ["lines 1"])


class AnswersTest(unittest.TestCase):
    LINES = text_lines(DUEL) + [
        "load", "root " + DUEL_ROOT, "solve", "value " + DUEL_ROOT, "what", "moves " + DUEL_ROOT,
        "edit clause 0 drawn if few 2", "agree 5 9 " + DUEL_ROOT, "value turn 1 . man0 man1",
    ]

    def test_answers_of(self):
        lines = list(self.LINES)
        self.assertEqual(answers_of(lines), [[f"lines {number}"] for number in range(1, 7)] + [
            ["loaded 3 1"], ["roots 1"], ["solved 2"], ["won 1 0-1"], ["refused word"], ["0-1"],
            ["edited 1", "turn 0 man0 . man1 was won 1 is drawn"], ["agreed drawn", "caught ann cid"], ["refused book"],
        ])
        self.assertEqual(lines, self.LINES)

    def test_no_lines(self):
        self.assertEqual(answers_of([]), [])

    def test_the_same_each_time(self):
        self.assertEqual(answers_of(self.LINES), answers_of(self.LINES))

    def test_a_new_desk_each_time(self):
        self.assertEqual(answers_of(["text a", "text b"]), [["lines 1"], ["lines 2"]])
        self.assertEqual(answers_of(["text c"]), [["lines 1"]])

    def test_an_error(self):
        with self.assertRaises(InvalidLine) as caught:
            answers_of(["text a", "text\t", "text b"])
        self.assertEqual(caught.exception.line, "text\t")
        self.assertIsInstance(caught.exception, SkewerError)


if __name__ == "__main__":
    unittest.main()
