"""Promise 63: the lines that a desk refuses, with an answer or with an error, and the order of the reasons."""

import unittest

from skewer.book import MOST_POSITIONS
from skewer.desk import Desk
from skewer.errors import InvalidLine, SkewerError
from tests.desks import (
    DUEL, DUEL_ROOT, HUNT, HUNT_ROOT, LARGE_ROOT, desk_with, large_lines, loaded_desk, solved_desk, text_lines, told_by,
)

ALL_WORDS = ("text", "drop", "load", "root", "solve", "value", "moves", "edit", "game", "agree")
POSITION_LINES = ("root", "value", "moves", "agree 5 9")


class RefusalTest(unittest.TestCase):
    def check(self, desk, line, reason):
        """The line is refused for this reason, and changes nothing."""
        told, draft = told_by(desk), len(self.draft(desk))
        self.assertEqual(desk.obey(line), [f"refused {reason}"], line)
        self.assertEqual(told_by(desk), told)
        self.assertEqual(len(self.draft(desk)), draft)

    def draft(self, desk):
        """The lines that the desk's draft must have by the lines that it has obeyed."""
        draft = []
        for line in desk.lines():
            if line.split(" ")[0] == "text":
                draft.append(line)
            elif line in ("drop", "load"):
                draft = []
        return draft


class WordTest(RefusalTest):
    def desks(self):
        return [Desk(), loaded_desk(), solved_desk()]

    def test_the_first_word_is_none_of_the_table(self):
        for desk in self.desks():
            for line in ("", " ", "x", "Load", "LOAD", "loads", "loa", "load,", "texts board 3", "text\\", "edits",
                         "value:", "turn 0 man0 . man1", "0", "~", " load", " text", "  text x", " edit", "refused",
                         "lines 1"):
                self.check(desk, line, "word")

    def test_a_word_is_empty(self):
        for desk in self.desks():
            for word in ALL_WORDS:
                if word not in ("text", "edit"):
                    for line in (word + " ", word + "  ", word + "  x", word + " x ", word + " a  b"):
                        self.check(desk, line, "word")
            self.check(desk, "root  " + DUEL_ROOT, "word")
            self.check(desk, "value turn 0  . man1 .", "word")
            self.check(desk, "agree  5 9 " + DUEL_ROOT, "word")
            self.check(desk, "agree 5 9 " + DUEL_ROOT + " ", "word")

    def test_word_comes_before_count(self):
        for line in ("solve ", "game  x", "agree  ", "drop x "):
            self.check(Desk(), line, "word")

    def test_empty_words_behind_text_and_edit(self):
        desk = Desk()
        self.assertEqual([desk.obey(line) for line in ("text", "text ", "text   ", "text  x  y ")],
                         [["lines 1"], ["lines 2"], ["lines 3"], ["lines 4"]])
        desk = loaded_desk()
        self.assertEqual(desk.obey("edit   clause  0  drawn  if few 2 "), ["edited"])
        self.check(desk, "edit", "text 1 1 line")
        self.check(desk, "edit ", "text 1 1 line")
        self.check(desk, "edit    ", "text 1 1 line")
        self.check(Desk(), "edit", "none")


class CountTest(RefusalTest):
    def test_too_many(self):
        for desk in (Desk(), loaded_desk(), solved_desk()):
            for word in ("drop", "load", "solve", "game"):
                for line in (word + " x", word + " 1 2", word + " " + word):
                    self.check(desk, line, "count")

    def test_too_few(self):
        for desk in (Desk(), loaded_desk(), solved_desk()):
            for line in ("root", "value", "moves", "agree", "agree 5", "agree 5 9", "agree x", "agree x y"):
                self.check(desk, line, "count")

    def test_enough(self):
        """Then it is another reason that applies, or none."""
        desk = loaded_desk()
        for line in ("root x", "value x", "moves x", "agree 5 9 x"):
            self.check(desk, line, "position 1 word")
            self.check(Desk(), line, "none")

    def test_count_comes_before_none(self):
        for line in ("solve now", "game x", "root", "agree 5 9"):
            self.check(Desk(), line, "count")


class NoneTest(RefusalTest):
    def test_no_game(self):
        for desk in (Desk(), desk_with(text_lines(DUEL)), desk_with(text_lines(DUEL) + ["drop"])):
            for line in ("root " + DUEL_ROOT, "solve", "value " + DUEL_ROOT, "moves " + DUEL_ROOT, "edit way east 0 1",
                         "game", "agree 5 9 " + DUEL_ROOT):
                self.check(desk, line, "none")

    def test_none_comes_first(self):
        for line in ("root x", "value x", "moves x", "edit x", "edit #", "agree x y z", "agree 05 9 z"):
            self.check(Desk(), line, "none")

    def test_what_needs_no_game(self):
        desk = Desk()
        self.assertEqual([desk.obey("text x"), desk.obey("drop")], [["lines 1"], ["dropped"]])
        self.check(desk, "load", "text 1 1 end")


class PositionTest(RefusalTest):
    CASES = (
        ("x", "1 word"), ("Turn 0 . . .", "1 word"), ("turn", "5 count"), ("turn 2 . . .", "6 word"),
        ("turn 0", "7 count"), ("turn 0 . .", "11 count"), ("turn 0 . . . .", "14 count"),
        ("turn 0 . . . x", "14 count"),
        ("turn 0 man . man1", "8 word"), ("turn 0 man0 . man2", "15 word"), ("turn 0 man0 . king1", "15 word"),
        ("turn 0 man0 .. man1", "13 word"), ("turn 0 man0 0 man1", "13 word"), ("turn 1 man01 . .", "8 word"),
    )

    def test_columns(self):
        """They count from the first word of the position."""
        for desk in (loaded_desk(), solved_desk()):
            for words, reason in self.CASES:
                for first in POSITION_LINES:
                    self.check(desk, first + " " + words, "position " + reason)

    def test_behind_numbers(self):
        desk = solved_desk()
        for numbers in ("x 9", "5 x", "05 9", "-1 3"):
            self.check(desk, f"agree {numbers} turn 0 x", "number")

    def test_ahead_of_what_else_applies(self):
        desk = loaded_desk()
        self.check(desk, "value turn 0 . . x", "position 12 word")
        self.check(desk, "value turn 0 . . .", "book")
        for number, word in enumerate((". . .", "man0 . .", ". man0 .", ". . man0", "man1 . .", ". man1 .", ". . man1",
                                       "man0 . man1")):
            self.assertEqual(desk.obey("root turn 0 " + word), [f"roots {number + 1}"])
        self.check(desk, "root turn 0 . . x", "position 12 word")
        self.check(desk, "root turn 0 . . man1", "twice")
        self.check(desk, "root turn 1 . . man1", "full")


class RootTest(RefusalTest):
    def test_twice(self):
        desk = loaded_desk()
        desk.obey("root " + DUEL_ROOT)
        self.check(desk, "root " + DUEL_ROOT, "twice")
        desk.obey("root turn 1 man0 . man1")
        self.check(desk, "root " + DUEL_ROOT, "twice")
        self.check(desk, "root turn 1 man0 . man1", "twice")

    def test_the_book_stays(self):
        desk = solved_desk()
        self.check(desk, "root " + DUEL_ROOT, "twice")
        self.check(desk, "root turn 0 x", "position 8 word")
        self.assertEqual(desk.obey("value " + DUEL_ROOT), ["won 1 0-1"])


class BookTest(RefusalTest):
    def test_no_book(self):
        desk = loaded_desk()
        for line in ("value", "agree 5 9"):
            self.check(desk, f"{line} {DUEL_ROOT}", "book")
        desk.obey("root " + DUEL_ROOT)
        for line in ("value", "agree 5 9"):
            self.check(desk, f"{line} {DUEL_ROOT}", "book")

    def test_not_in_the_book(self):
        desk = solved_desk()
        for words in ("turn 1 man0 . man1", "turn 0 . . .", "turn 1 man0 man0 man0"):
            for line in ("value", "agree 5 9"):
                self.check(desk, f"{line} {words}", "book")

    def test_moves_needs_no_book(self):
        self.assertEqual(loaded_desk().obey("moves " + DUEL_ROOT), ["0-1"])


class NumberTest(RefusalTest):
    def test_no_numbers(self):
        desk = solved_desk()
        for word in ("00", "01", "007", "000000", "+1", "-1", "-0", "1.0", "1,000", "0x1", "1e3", "one", "_1", "1_0",
                     "1000000", "9999999", "12345678901234567890", "0000001", "1a", "a1", "'1'"):
            self.check(desk, f"agree {word} 9 {DUEL_ROOT}", "number")
            self.check(desk, f"agree 5 {word} {DUEL_ROOT}", "number")
            self.check(desk, f"agree {word} {word} {DUEL_ROOT}", "number")

    def test_numbers(self):
        desk = solved_desk()
        for word in ("0", "1", "9", "10", "100000", "999999", "123456"):
            for line in (f"agree {word} 0 {DUEL_ROOT}", f"agree {word} {word} {DUEL_ROOT}"):
                self.assertEqual(desk.obey(line)[0], "agreed won 1")

    def test_number_comes_before_position_and_book(self):
        for desk in (loaded_desk(), solved_desk()):
            self.check(desk, "agree 00 9 x", "number")
            self.check(desk, "agree 0 09 turn 0 . . .", "number")


class TextTest(RefusalTest):
    def test_full(self):
        desk = desk_with(["text"] * 100)
        self.check(desk, "text", "full")
        self.check(desk, "text " + "x" * 195, "full")

    def test_load(self):
        cases = [
            ([], "1 1 end"), (["board 3"], "2 1 end"), (["board 25"], "1 7 range"), (["Board 3"], "1 1 character"),
            (["way east"], "1 1 line"), ([""], "2 1 end"), (["", "", " board"], "3 7 expected"),
            (list(DUEL[:5]), "6 1 end"), (list(DUEL) + ["clause won"], "7 11 expected"),
            (list(DUEL) + ["way x"], "7 1 line"),
            (["board 3", "way abcdefghijklm"], "2 5 word"), (["board 3 #"], "1 9 character"),
        ]
        for lines, reason in cases:
            for desk in (Desk(), solved_desk()):
                for line in text_lines(lines):
                    desk.obey(line)
                self.check(desk, "load", "text " + reason)

    def test_a_long_draft(self):
        """A draft cannot be too large to be read: it has at most 100 lines of at most 195 characters."""
        desk = desk_with(text_lines(DUEL) + ["text " + " " * 195] * 94)
        self.assertEqual(desk.obey("load"), ["loaded 3 1"])

    def test_edit(self):
        cases = [
            ("board 3", "1 1 line"), ("drop", "1 5 expected"), ("drop clause 0", "1 13 range"),
            ("  drop  clause  0", "1 17 range"), ("way east 0 3", "1 12 range"), ("way north 0 1", "1 5 unknown"),
            ("clause 1 won if stuck", "1 8 range"), ("program man 2 = rest", "1 13 range"),
            ("way east 0 #", "1 12 character"),
            ("program man 0 = any(any(any(any(any(any(any(any(rest))))))))", "1 49 deep"),
        ]
        for edit, reason in cases:
            for desk in (loaded_desk(), solved_desk()):
                self.check(desk, "edit " + edit, "text " + reason)


class LargeTest(RefusalTest):
    def test_solve(self):
        desk = loaded_desk(large_lines())
        desk.obey("root " + LARGE_ROOT)
        self.check(desk, "solve", "large")
        self.assertIsNone(desk.book())

    def test_edit(self):
        """The edited game reaches too many positions, so that the game and the book stay."""
        desk = solved_desk(large_lines("clause drawn if few 4"), LARGE_ROOT)
        self.assertEqual(len(desk.book()), 1)
        self.check(desk, "edit drop clause 0", "large")
        self.assertEqual(desk.obey("value " + LARGE_ROOT), ["drawn"])
        self.assertEqual(desk.obey("edit clause 0 won if few 4"),
                         ["edited 1", LARGE_ROOT + " was drawn is won 0"])
        self.assertEqual(MOST_POSITIONS, 20000)

    def test_edit_without_a_book(self):
        """Nothing has to be computed then."""
        desk = loaded_desk(large_lines("clause drawn if few 4"))
        desk.obey("root " + LARGE_ROOT)
        self.assertEqual(desk.obey("edit drop clause 0"), ["edited"])
        self.check(desk, "solve", "large")

    def test_the_book_stays_behind_a_solve_that_is_too_large(self):
        """A root is added, so there is none; it stays so."""
        desk = solved_desk(large_lines(), "turn 0 . man0 man1" + " ." * 21)
        self.assertEqual(len(desk.book()) > 100, True)
        desk.obey("root " + LARGE_ROOT)
        self.check(desk, "solve", "large")
        self.assertIsNone(desk.book())


class InvalidLineTest(unittest.TestCase):
    def check(self, desk, line):
        told = told_by(desk)
        with self.assertRaises(InvalidLine) as caught:
            desk.obey(line)
        self.assertEqual(caught.exception.line, line)
        self.assertIsInstance(caught.exception, SkewerError)
        self.assertEqual(told_by(desk), told)

    def test_length(self):
        desk = Desk()
        self.assertEqual(desk.obey("text " + "x" * 195), ["lines 1"])
        self.check(desk, "text " + "x" * 196)
        self.check(desk, " " * 201)
        self.check(desk, "x" * 201)
        self.check(desk, "x" * 100000)
        self.assertEqual(desk.obey("x" * 200), ["refused word"])
        self.assertEqual(desk.obey(" " * 200), ["refused word"])
        self.assertEqual(desk.obey("solve" + " x" * 97 + "y"), ["refused count"])
        self.assertEqual(desk.obey("text"), ["lines 2"])

    def test_characters(self):
        for desk in (Desk(), solved_desk(HUNT)):
            for letter in ("\t", "\n", "\r", "\0", "\x1f", "\x7f", "\x80", "\xa0", "\xe4", "\u0664", "\u2028",
                           "\U0001f600"):
                for line in (letter, "text " + letter, "text x" + letter, letter + "text", "drop" + letter,
                             "edit " + letter, "value " + HUNT_ROOT + letter, "what" + letter):
                    self.check(desk, line)

    def test_all_other_characters(self):
        desk = Desk()
        letters = "".join([chr(number) for number in range(32, 127)])
        self.assertEqual(desk.obey("text " + letters), ["lines 1"])
        for letter in letters:
            self.assertEqual(len(desk.obey("text " + letter)), 1)
        self.assertEqual(len(desk.lines()), 96)

    def test_nothing_changes(self):
        """The draft is as it was, too."""
        desk = desk_with(text_lines(DUEL[:3]))
        self.check(desk, "text kind man\n")
        self.check(desk, "drop\n")
        self.assertEqual(desk.obey("text kind man"), ["lines 4"])


if __name__ == "__main__":
    unittest.main()
