"""Promise 9: the errors of a game's text, their lines, columns and order."""

import unittest

from skewer.reader import read_game
from tests.texts import LINES, error_of, text_of, unmarked, whole_text, with_line, with_more


class MarkedTest(unittest.TestCase):
    """In the lines of these tests an `@`, which is left out, stands ahead of the column of the error."""

    def check_line(self, number, marked, reason):
        """The text with the marked line in the place of the one with this number."""
        line, column = unmarked(marked)
        with self.subTest(line=marked):
            self.assertEqual(error_of(read_game, with_line(number, line)), (number, column, reason))

    def check_more(self, marked, reason):
        """The text with the marked line behind the last one."""
        line, column = unmarked(marked)
        with self.subTest(line=marked):
            self.assertEqual(error_of(read_game, with_more(line)), (len(LINES) + 1, column, reason))

    def check_lines(self, lines, number, column, reason):
        with self.subTest(lines=lines):
            self.assertEqual(error_of(read_game, text_of(lines)), (number, column, reason))


class TokensTest(MarkedTest):
    def test_the_whole_text_has_no_error(self):
        self.assertIsNone(error_of(read_game, whole_text()))

    def test_character(self):
        for sign in ".-+:*AZ[]{}'\"#\t\r\u00e9\u0663\u00a0@":
            self.check_line(1, "board 4 @" + sign, "character")
        self.check_line(4, "kind @Man", "character")
        self.check_line(6, "program man 0 @: rest", "character")
        self.check_line(2, "way east 0@-1", "character")
        self.check_more("@!", "character")

    def test_word(self):
        self.check_line(4, "kind @abcdefghijklm", "word")
        self.check_line(2, "way @" + "e" * 13 + " 0 1", "word")
        self.check_more("@" + "c" * 100, "word")

    def test_number(self):
        self.check_line(1, "board @04", "number")
        self.check_line(1, "board @00", "number")
        self.check_line(1, "board @1000000", "number")
        self.check_line(2, "way east 0 1 @02", "number")
        self.check_more("clause won if few @1000000", "number")

    def test_tokens_are_read_ahead_of_all_else_in_the_line(self):
        self.check_line(1, "bord 99 x 9 @?", "character")
        self.check_line(4, "lamp @abcdefghijklm", "word")
        self.check_line(2, "way east 9 9 9 @007", "number")
        self.check_line(6, "program lamp 9 any any @!", "character")
        self.check_more("board @0001", "number")

    def test_first_wrong_piece_of_a_line(self):
        self.check_line(2, "way @abcdefghijklm 01 !", "word")
        self.check_line(2, "way east @01 ! abcdefghijklm", "number")
        self.check_line(2, "way east @! 01 abcdefghijklm", "character")


class FirstWordsTest(MarkedTest):
    def test_board_is_due(self):
        for word in ("way", "kind", "program", "clause", "lamp", "0", "=", "drop"):
            self.check_line(1, "@" + word, "line")
            self.check_line(1, "   @" + word + " east 0 1", "line")

    def test_way_is_due(self):
        for word in ("board", "kind", "program", "clause", "lamp", "1", ";"):
            self.check_line(2, "@" + word + " 4", "line")

    def test_way_or_kind_is_due(self):
        for word in ("board", "program", "clause", "lamp", "2", ","):
            self.check_line(3, "@" + word + " 4", "line")

    def test_kind_or_program_is_due(self):
        for word in ("board", "way", "clause", "lamp", "3", "("):
            self.check_line(5, "@" + word + " north 0 1", "line")

    def test_program_is_due(self):
        for number in (7, 8, 9):
            for word in ("board", "way", "kind", "clause", "lamp", "4", ")"):
                self.check_line(number, "@" + word + " x", "line")

    def test_clause_is_due(self):
        for word in ("board", "way", "kind", "program", "lamp", "5", "=", "drop"):
            self.check_more("@" + word + " man 0 = rest", "line")

    def test_ninth_way(self):
        lines = ["board 1"] + ["way way" + letter for letter in "abcdefghi"]
        self.check_lines(lines, 10, 1, "line")
        self.check_lines(lines[:-1] + ["  way waya"], 10, 3, "line")
        self.check_lines(lines[:-1] + ["way"], 10, 1, "line")

    def test_seventh_kind(self):
        lines = ["board 1", "way a"] + ["kind kind" + letter for letter in "abcdefg"]
        self.check_lines(lines, 9, 1, "line")
        self.check_lines(lines[:-1] + [" kind kinda"], 9, 2, "line")

    def test_thirteenth_clause(self):
        lines = list(LINES[:9]) + ["clause won if stuck"] * 13
        self.check_lines(lines, 22, 1, "line")
        self.check_lines(lines[:-1] + ["    clause lamp"], 22, 5, "line")
        self.check_lines(lines[:-1] + ["lamp"], 22, 1, "line")


class ExpectedTest(MarkedTest):
    def test_board(self):
        for line in ("board@", "board  @", "board @x", "board @;", "board @board", "board 4 @4", "board 4@;"):
            self.check_line(1, line, "expected")

    def test_way(self):
        lines = ["way@", "way   @", "way @0", "way @;", "way @=", "way east @x", "way east @;", "way east @,"]
        lines = lines + ["way east 0 1;@", "way east 0 1;  @", "way east 0 1; @;", "way east 0 1; @x", "way east 0 @="]
        lines = lines + ["way east 0 @east", "way east 0 1@, 2 3", "way east 0 1; 2 3 @x", "way east 0 @nowhere"]
        for line in lines:
            self.check_line(2, line, "expected")

    def test_kind(self):
        for line in ("kind@", "kind @0", "kind @(", "kind man @x", "kind man @0", "kind man@;"):
            self.check_line(4, line, "expected")

    def test_key_words_are_no_names(self):
        for word in ("board", "way", "if", "won", "go", "empty", "rest", "on", "few", "or", "nowhere", "turn", "drop"):
            self.check_line(2, "way @" + word, "expected")
            self.check_line(4, "kind @" + word, "expected")
            self.check_line(6, "program @" + word + " 0 = rest", "expected")
            self.check_line(6, "program man 0 = go @" + word, "expected")
            self.check_line(6, "program man 0 = at @" + word, "expected")
            self.check_line(6, "program man 0 = lay @" + word, "expected")
            self.check_more("clause won if lacks @" + word, "expected")
            self.check_more("clause won if holds @" + word + " on 1", "expected")

    def test_head_of_a_program(self):
        lines = ["program@", "program @0", "program @=", "program man@", "program man @man", "program man @="]
        lines = lines + ["program man 0@", "program man 0 @rest", "program man 0 @0", "program man 0 @(rest)"]
        lines = lines + ["program man 0 =@", "program man 0 =  @", "program man 0 = @=", "program man 0 = @0"]
        for line in lines:
            self.check_line(6, line, "expected")

    def test_programs(self):
        cases = ["@man", "@stuck", "@nowhere", "@(", "@)", "@,", "go@", "go @0", "go @(", "at@", "at @1", "lay @)"]
        cases = cases + ["empty @empty", "rest@, rest", "take@()", "own @0", "go east @west", "at man@)", "foe @;"]
        cases = cases + ["row@", "row @rest", "row @= ()", "row(@", "row( @", "row(@,)", "row(@0)", "row(rest@"]
        cases = cases + ["row(rest @rest)", "row(rest,@)", "row(rest,@", "row(rest, @, rest)", "row(rest)@)"]
        cases = cases + ["row(rest@; rest)", "row() @rest", "row(row(rest)@", "row(rest@=)", "row(@()"]
        cases = cases + ["either@", "either @own", "either(@", "either(rest,@)", "either(rest)@)", "either() @0"]
        cases = cases + ["any@", "any @rest", "any(@)", "any(@", "any(rest@", "any(rest@, rest)", "any(rest)@)"]
        for case in cases:
            self.check_line(6, "program man 0 = " + case, "expected")

    def test_head_of_a_clause(self):
        lines = ["clause@", "clause @0 won if stuck", "clause @man", "clause @if stuck", "clause @stuck", "clause won@"]
        lines = lines + ["clause won @stuck", "clause won @won", "clause won @0", "clause won @=", "clause won if@"]
        lines = lines + ["clause lost if  @", "clause drawn if @if", "clause drawn if @rest", "clause won if @0"]
        for line in lines:
            self.check_more(line, "expected")

    def test_conditions(self):
        cases = ["@man", "@empty", "@on", "@(", "lacks@", "lacks @0", "lacks man @0", "lacks man @on 0", "foelacks@"]
        cases = cases + ["foelacks @(", "holds@", "holds man@", "holds man @0", "holds man @man", "holds man on@"]
        cases = cases + ["holds man on @man", "holds man on 0 1 @x", "holds man on 0@, 1", "holds man on 0@; 1"]
        cases = cases + ["foeholds @3 on", "foeholds man on@", "foeholds king on 1 @on", "stuck @0", "stuck@()", "few@"]
        cases = cases + ["few @man", "few 1 @2", "few @(", "not@", "not @stuck", "not(@)", "not(@", "not(stuck@"]
        cases = cases + ["not(stuck@, stuck)", "not(stuck)@)", "and@", "and @stuck", "and(@)", "and(stuck@)", "and(@,"]
        cases = cases + ["and(stuck,@)", "and(stuck, few 1@", "and(stuck, few 1@, few 2)", "and(stuck @stuck)"]
        cases = cases + ["and(few 1 @2, stuck)", "or(@", "or(holds man on 1@)", "or(stuck, stuck)@)", "or(stuck,@"]
        for case in cases:
            self.check_more("clause won if " + case, "expected")

    def test_column_behind_the_last_character_counts_spaces(self):
        self.check_line(1, "  board     @", "expected")
        self.check_line(6, "program man 0 = any(rest    @", "expected")
        text = text_of(LINES[:5]) + "program man 0 =  "
        self.assertEqual(error_of(read_game, text), (6, 18, "expected"))


class NamesTest(MarkedTest):
    def test_twice_for_names(self):
        self.check_line(3, "way @east", "twice")
        self.check_line(3, "way @east 3 2 1 0", "twice")
        self.check_line(5, "kind   @man", "twice")
        lines = ["board 1"] + ["way way" + letter for letter in "abcdefg"] + ["way waya"]
        self.check_lines(lines, 9, 5, "twice")

    def test_twice_for_fields(self):
        rows = ["0 1 @0 1", "0 1; @0 1", "0 1; @0 2", "0 @0 0", "0 0; @0 0", "0 1 2 3 @0 2", "0 1; 2 3; @2 1"]
        rows = rows + ["1 2 3; 0 @1 2", "0 1; 1 2; @1 3; 0 2", "3 @3 3", "0 1 2 @1 3 0", "0 1 @0   1"]
        for row in rows:
            self.check_line(2, "way east " + row, "twice")

    def test_a_row_may_end_at_a_field_that_leads_on(self):
        for rows in ("0 1 0", "0 1; 2 0", "0 1; 0", "0 0", "0 1 2 1", "0; 0 1; 0; 2 0; 0"):
            self.assertIsNone(error_of(read_game, with_line(2, "way east " + rows)))

    def test_unknown(self):
        self.check_line(6, "program @king 0 = rest", "unknown")
        self.check_line(6, "program @lamp 0 = rest", "unknown")
        self.check_line(6, "program @east 0 = rest", "unknown")
        self.check_line(7, "program @king 1 = rest", "unknown")
        self.check_line(8, "program @man 0 = rest", "unknown")
        self.check_line(6, "program man 0 = go @north", "unknown")
        self.check_line(6, "program man 0 = go @man", "unknown")
        self.check_line(6, "program man 0 = row(rest, at @lamp)", "unknown")
        self.check_line(6, "program man 0 = any(lay @east)", "unknown")
        self.check_more("clause won if lacks @lamp", "unknown")
        self.check_more("clause won if foelacks @west", "unknown")
        self.check_more("clause won if not(holds @men on 1)", "unknown")
        self.check_more("clause won if and(stuck, foeholds @men on 1)", "unknown")


class RangeTest(MarkedTest):
    def test_fields_of_a_board(self):
        for number in (0, 25, 26, 100, 999999):
            self.check_line(1, f"board @{number}", "range")
        for number in (1, 24):
            lines = [f"board {number}", "way a", "kind b", "program b 0 = rest", "program b 1 = rest"]
            self.assertIsNone(error_of(read_game, text_of(lines)))

    def test_fields_of_a_way(self):
        for row in ("@4", "0 @4", "0 1; @4", "0 1 2 3 @4", "0 1; 2 3; 1 @999999", "@24 0", "3 2; @10 1"):
            self.check_line(2, "way east " + row, "range")

    def test_sides(self):
        self.check_line(6, "program man @1 = rest", "range")
        self.check_line(6, "program man @2 = rest", "range")
        self.check_line(7, "program man @0 = rest", "range")
        self.check_line(7, "program man @10 = rest", "range")
        self.check_line(8, "program king @1 = rest", "range")
        self.check_line(9, "program king @0 = rest", "range")

    def test_fields_of_a_condition(self):
        for fields in ("@4", "0 @4", "0 1 @1", "2 @0", "3 @3", "0 1 2 3 @4", "0 3 @2", "@999999", "0 @0 4"):
            self.check_more("clause won if holds man on " + fields, "range")
            self.check_more("clause won if not(or(stuck, foeholds king on " + fields + "))", "range")

    def test_numbers_of_few_have_no_range(self):
        for number in (0, 1, 24, 25, 999999):
            self.assertIsNone(error_of(read_game, with_more(f"clause won if few {number}")))


class DeepTest(MarkedTest):
    def test_programs(self):
        deep = "program man 0 = " + "any(" * 8
        for end in ("@rest", "@row()", "@any(rest)", "@go lamp", "@go", "@any", "@at 0"):
            self.check_line(6, deep + end, "deep")
        self.check_line(6, "program man 0 = " + "row(" * 8 + "@take" + ")" * 8, "deep")
        self.check_line(6, "program man 0 = " + "either(rest, " * 7 + "either(@take" + ")" * 8, "deep")
        self.check_line(6, "program man 0 = row(any(row()), " + "any(" * 7 + "@take" + ")" * 8, "deep")

    def test_what_begins_no_program_is_not_deep(self):
        for end in ("@)", "@,", "@man", "@0", "@stuck", "@"):
            self.check_line(6, "program man 0 = " + "any(" * 8 + end, "expected")

    def test_programs_that_are_deep_enough(self):
        for program in ("any(" * 7 + "rest" + ")" * 7, "row(" * 8 + ")" * 8, "either(row(), " * 7 + "rest" + ")" * 7):
            self.assertIsNone(error_of(read_game, with_line(6, "program man 0 = " + program)))

    def test_conditions(self):
        for end in ("@stuck", "@not(stuck)", "@lacks lamp", "@few", "@and", "@holds man on 9"):
            self.check_more("clause won if " + "not(" * 8 + end, "deep")
        self.check_more("clause won if " + "and(stuck, " * 7 + "and(@stuck, stuck" + ")" * 8, "deep")
        self.check_more("clause won if or(" + "and(" * 6 + "not(@stuck", "deep")

    def test_what_begins_no_condition_is_not_deep(self):
        for end in ("@)", "@man", "@rest", "@"):
            self.check_more("clause won if " + "not(" * 8 + end, "expected")

    def test_conditions_that_are_deep_enough(self):
        for condition in ("not(" * 7 + "stuck" + ")" * 7, "and(stuck, " * 7 + "few 1" + ")" * 7):
            self.assertIsNone(error_of(read_game, with_more("clause won if " + condition)))


class PartsTest(MarkedTest):
    def test_sixty_first_part(self):
        sixty = "row(" + "take, " * 59
        for end in ("@take)", "@row()", "@go lamp", "@any", "@at 0"):
            self.check_line(6, "program man 0 = " + sixty + end, "parts")
        self.check_line(7, "program man 1 = either(" + "any(rest), " * 29 + "rest, @rest, rest)", "parts")
        self.check_line(9, "program king 1 = row(" + "row(), either(), " * 29 + "rest, @row())", "parts")

    def test_what_begins_no_program_is_no_part(self):
        for end in ("@)", "@man", "@stuck", "@"):
            self.check_line(6, "program man 0 = row(" + "take, " * 59 + end, "expected")

    def test_sixty_parts(self):
        for program in ("row(" + "take, " * 58 + "rest)", "either(" + "any(rest), " * 29 + "rest)"):
            self.assertIsNone(error_of(read_game, with_line(6, "program man 0 = " + program)))

    def test_deep_is_checked_ahead_of_parts(self):
        # The parts are: 1 row, 52 rests, 7 times any, and one more, which is the 61st one and nested 9 deep.
        program = "row(" + "rest, " * 52 + "any(" * 7 + "@rest"
        self.check_line(6, "program man 0 = " + program, "deep")
        program = "row(" + "rest, " * 53 + "any(" * 6 + "@rest"
        self.check_line(6, "program man 0 = " + program, "parts")


class OrderTest(MarkedTest):
    def test_left_to_right_in_a_line(self):
        self.check_line(1, "board @25 25", "range")
        self.check_line(2, "way east @9 x", "range")
        self.check_line(2, "way east 0 1 @0 9", "twice")
        self.check_line(2, "way east 0 1 0 @x", "expected")
        self.check_line(2, "way east 0 @9 0 1", "range")
        self.check_line(3, "way @east 9 9 x", "twice")
        self.check_line(5, "kind @man man", "twice")
        self.check_line(6, "program @lamp 7 rest", "unknown")
        self.check_line(6, "program man @7 rest", "range")
        self.check_line(6, "program man 0 @rest lamp", "expected")
        self.check_line(6, "program man 0 = row(go @lamp, go lamp", "unknown")
        self.check_line(6, "program man 0 = row(@lamp, go lamp", "expected")
        self.check_more("clause won if holds @lamp in 9 9", "unknown")
        self.check_more("clause won if holds man @in 9 9", "expected")
        self.check_more("clause won if holds man on @9 9 x", "range")

    def test_first_word_ahead_of_the_rest_of_the_line(self):
        self.check_line(2, "@kind 9 east", "line")
        self.check_line(6, "@way east 9", "line")

    def test_lines_in_order(self):
        self.check_lines(["board 25", "!"], 1, 7, "range")
        self.check_lines(["board 4", "way east 9", "way east !"], 2, 10, "range")
        self.check_lines(["board 4", "", "   ", "lamp", "00"], 4, 1, "line")
        self.check_lines(list(LINES[:5]) + ["program man 0 = go north", "program lamp"], 6, 20, "unknown")
        self.check_lines(list(LINES[:9]) + ["clause won if few man", "!"], 10, 19, "expected")

    def test_lines_without_tokens_count(self):
        self.check_lines(["", "board 0"], 2, 7, "range")
        self.check_lines(["", "  ", "board 4", "", "lamp"], 5, 1, "line")


class EndTest(MarkedTest):
    def test_each_line_that_is_missing(self):
        for number in range(1, 9):
            self.check_lines(LINES[:number], number + 1, 1, "end")
            text = "\n".join(LINES[:number])
            self.assertEqual(error_of(read_game, text), (number + 1, 1, "end"))

    def test_behind_lines_without_tokens(self):
        self.assertEqual(error_of(read_game, "\n"), (2, 1, "end"))
        self.assertEqual(error_of(read_game, "\n\n\n"), (4, 1, "end"))
        self.assertEqual(error_of(read_game, "   "), (2, 1, "end"))
        self.assertEqual(error_of(read_game, "board 4\n\n"), (3, 1, "end"))
        self.assertEqual(error_of(read_game, "board 4\n\n  "), (4, 1, "end"))

    def test_empty_text_has_no_line(self):
        self.assertEqual(error_of(read_game, ""), (1, 1, "end"))

    def test_the_clauses_may_be_missing(self):
        self.assertIsNone(error_of(read_game, text_of(LINES[:9])))

    def test_other_errors_come_first(self):
        self.check_lines(["board 4", "way east 7"], 2, 10, "range")
        self.check_lines(["board 4", "!"], 2, 1, "character")


if __name__ == "__main__":
    unittest.main()
