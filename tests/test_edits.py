"""Promises 54 to 57: where two games differ, touched positions, renewed books and witnesses."""

import copy
import unittest

from skewer.book import reachable, solve
from skewer.edits import differ, renew, touched, witness
from skewer.errors import InvalidGame, SkewerError, TooLarge
from skewer.judge import judge_book
from skewer.play import is_line, line_after
from skewer.reader import edited
from skewer.syntax import Board, Game
from tests.games import capture, either, parts_of, ring_of, row, step_to, walk
from tests.made import Maker, made_games, small_rings
from tests.slow import plain_book
from tests.slow_more import plain_differ, plain_renew, plain_touched, plain_witness

START = (0, (1, 0, 2))
LATER = (1, (0, 1, 2))


def duel(clauses=None, programs=None, kinds=None, ways=None):
    """On three fields, men of side 0 step east and those of side 1 west."""
    board = Board(3, ways or [("east", [1, 2, -1]), ("west", [-1, 0, 1])])
    return Game(board, kinds or ["man"], clauses or [], programs or [(step_to(0), step_to(1))])


def hunt(size=6, clauses=None, programs=None):
    """Two men of side 0 hunt one of side 1."""
    return ring_of(size, programs or [(walk(0, 1), walk(0, 1))], clauses)


def hunt_start(size=6):
    return (0, (1, 1, 0, 2) + (0,) * (size - 4))


def large():
    """A game in which from two men of each side more than 20000 positions can be reached."""
    jump = row(("any", ("go", 0)), ("empty",))
    return Game(Board(24, [("east", [(field + 1) % 24 for field in range(24)])]), ["man"], [], [(jump, jump)])


LARGE_START = (0, (1, 1, 2, 2) + (0,) * 20)


def made_edit(maker, game):
    """Another game, in which one thing is different, or nothing."""
    size, ways, kinds = game.board.size, len(game.board.ways), len(game.kinds)
    clauses, programs, board = list(game.clauses), list(game.programs), game.board
    what = maker.below(4)
    if what == 0:
        kind, side = maker.below(kinds), maker.below(2)
        pair = [programs[kind][0], programs[kind][1]]
        pair[side] = maker.one_of((pair[side], maker.moving(ways, kinds, 3), step_to(0), capture(0)))
        programs[kind] = tuple(pair)
    elif what == 1 and clauses:
        clauses[maker.below(len(clauses))] = (maker.condition(size, kinds, 2), maker.one_of(("won", "lost", "drawn")))
    elif what == 2:
        clauses = clauses[1:] if clauses else [(maker.condition(size, kinds, 3), "drawn")]
    else:
        rows = [(name, list(leads)) for name, leads in board.ways]
        rows[maker.below(ways)][1][maker.below(size)] = maker.below(size + 1) - 1
        board = Board(size, rows)
    return Game(board, game.kinds, clauses, programs)


class UnlikeTest(unittest.TestCase):
    """Games with other numbers of fields or of kinds."""

    def calls(self, old, new):
        return [lambda: differ(old, new, START), lambda: touched(old, new, {}, [START]),
                lambda: touched(old, new, {}, []), lambda: renew(old, new, {}, [START]),
                lambda: witness(old, new, {}, START)]

    def check(self, old, new, reason):
        for pair in ((old, new), (new, old)):
            for call in self.calls(*pair):
                with self.assertRaises(InvalidGame) as caught:
                    call()
                self.assertEqual(caught.exception.reason, reason)
                self.assertIsInstance(caught.exception, SkewerError)

    def test_fields(self):
        self.check(duel(), ring_of(4, [(walk(0), walk(1))]), "fields")
        self.check(duel(), ring_of(2, [(walk(0), walk(1))]), "fields")

    def test_kinds(self):
        self.check(duel(), duel(kinds=["man", "king"], programs=[(step_to(0), step_to(1))] * 2), "kinds")

    def test_both(self):
        self.check(duel(), ring_of(4, [(walk(0), walk(1))] * 2), "fields")

    def test_ahead_of_too_many_positions(self):
        two = Game(large().board, ["man", "king"], [], list(large().programs) * 2)
        for old, new, reason in ((duel(), large(), "fields"), (two, large(), "kinds")):
            for call in (touched, renew):
                with self.assertRaises(InvalidGame) as caught:
                    call(old, new, {}, [LARGE_START])
                self.assertEqual(caught.exception.reason, reason)
            with self.assertRaises(InvalidGame) as caught:
                witness(old, new, {}, LARGE_START)
            self.assertEqual(caught.exception.reason, reason)

    def test_other_names_and_ways(self):
        """They do not matter, as long as the next positions and the values of positions that are over are the same."""
        new = duel(kinds=["pawn"], ways=[("a", [-1] * 3), ("b", [-1, 0, 1]), ("c", [1, 2, -1])],
                   programs=[(step_to(2), step_to(1))])
        book = solve(duel(), [START])
        for position in (START, LATER, (1, START[1]), (0, (0, 0, 0))):
            self.assertIs(differ(duel(), new, position), False)
        self.assertEqual(touched(duel(), new, book, [START]), [])
        self.assertEqual(renew(duel(), new, book, [START]), (book, []))
        self.assertIsNone(witness(duel(), new, book, START))


class DifferTest(unittest.TestCase):
    def check(self, old, new, position, expected):
        self.assertIs(differ(old, new, position), expected)
        self.assertIs(differ(new, old, position), expected)

    def test_the_same_game(self):
        for position in (START, LATER, (1, START[1]), (0, (0, 0, 0)), (0, (1, 2, 0))):
            self.check(duel(), duel(), position, False)
            self.check(duel([(("few", 2), "won")]), duel([(("few", 2), "won")]), position, False)

    def test_over_in_one_of_them(self):
        for result in ("won", "lost", "drawn"):
            self.check(duel(), duel([(("few", 2), result)]), START, True)
            # Three men: it is over in none of them.
            self.check(duel(), duel([(("few", 2), result)]), (1, (2, 2, 1)), False)
        self.check(duel(), duel(programs=[(("rest",), step_to(1))]), START, True)

    def test_over_in_both(self):
        results = ("won", "lost", "drawn")
        for one in results:
            for other in results:
                new = duel([(("few", 1), "won"), (("few", 3), other)])
                self.check(duel([(("few", 2), one)]), new, START, one != other)

    def test_over_in_both_without_a_move_in_one(self):
        """It is lost without a move, and so by a clause that says so."""
        for result in ("won", "lost", "drawn"):
            self.check(duel(), duel([(("lacks", 0), result)]), (0, (0, 0, 2)), result != "lost")
            self.check(duel(), duel([(("stuck",), result)]), LATER, result != "lost")
            self.check(duel([(("few", 2), result)]), duel(programs=[(("rest",), ("rest",))]), START, result != "lost")

    def test_over_in_both_with_other_moves(self):
        """A position that is over has no next positions."""
        old, new = duel([(("few", 2), "won")]), duel([(("few", 2), "won")], [(("rest",), ("rest",))])
        self.check(old, new, START, False)
        self.check(old, new, (1, START[1]), False)

    def test_over_in_none(self):
        steps = either(step_to(0), row(("go", 0), ("go", 0), ("take",)))
        self.check(duel(), duel(programs=[(steps, step_to(1))]), START, True)
        self.check(duel(), duel(programs=[(steps, step_to(1))]), (1, START[1]), False)
        self.check(duel(), duel(programs=[(either(step_to(0), capture(0)), step_to(1))]), START, False)
        self.check(duel(), duel(ways=[("east", [1, 0, -1]), ("west", [-1, 0, 1])]), START, False)
        self.check(duel(), duel(ways=[("east", [2, 2, -1]), ("west", [-1, 0, 1])]), (0, (1, 0, 0)), True)

    def test_other_moves_to_the_same_positions(self):
        """Two men who can both be taken by the other one, which then stands there."""
        board = Board(2, [("on", [1, 0])])
        one = Game(board, ["man"], [], [(row(("go", 0), ("take",)), ("rest",))])
        stay = row(("go", 0), ("take",), ("go", 0))
        both = Game(board, ["man"], [], [(either(row(("go", 0), ("take",)), stay), ("rest",))])
        self.check(one, both, (0, (1, 1)), False)
        self.check(one, both, (0, (1, 2)), True)

    def test_made_games(self):
        maker = Maker(54)
        told = {}
        for game in made_games(54, 300) + small_rings(maker, 300):
            new = made_edit(maker, game)
            position = maker.position(game)
            expected = plain_differ(game, new, position)
            self.check(game, new, position, expected)
            told[expected] = told.get(expected, 0) + 1
        self.assertGreater(min(told.values()), 60)


class TouchedTest(unittest.TestCase):
    def test_nothing_has_changed(self):
        book = solve(hunt(), [hunt_start()])
        self.assertEqual(touched(hunt(), hunt(), book, [hunt_start()]), [])
        self.assertEqual(renew(hunt(), hunt(), book, [hunt_start()]), (book, []))
        for position in sorted(book)[::20]:
            self.assertIsNone(witness(hunt(), hunt(), book, position))

    def test_no_roots(self):
        book = solve(hunt(), [hunt_start()])
        new = hunt(6, [(("few", 2), "drawn")])
        self.assertEqual(touched(hunt(), new, book, []), [])
        self.assertEqual(renew(hunt(), new, book, []), ({}, []))
        self.assertEqual(renew(hunt(), new, {}, []), ({}, []))

    def test_the_document_s_example(self):
        new = duel([(("few", 2), "drawn")])
        book = solve(duel(), [START])
        self.assertEqual(touched(duel(), new, book, [START]), [START])
        self.assertEqual(renew(duel(), new, book, [START]), ({START: ("drawn",)}, [(START, ("won", 1), ("drawn",))]))
        self.assertEqual(witness(duel(), new, book, START), [])

    def test_behind_a_position(self):
        """The games differ at the last position only, and all positions ahead of it are touched."""
        new = duel([(("foeholds", 0, [1]), "drawn")])
        book = solve(duel(), [START])
        self.assertEqual([differ(duel(), new, one) for one in (START, LATER)], [False, True])
        self.assertEqual(touched(duel(), new, book, [START]), [START, LATER])
        self.assertEqual(touched(duel(), new, book, [LATER]), [LATER])
        self.assertEqual(renew(duel(), new, book, [START]),
                         ({START: ("drawn",), LATER: ("drawn",)},
                          [(START, ("won", 1), ("drawn",)), (LATER, ("lost", 0), ("drawn",))]))
        self.assertEqual(witness(duel(), new, book, START), [(0, 1, (), 0)])
        self.assertEqual(witness(duel(), new, book, LATER), [])

    def test_only_in_the_elder_game(self):
        """What can be reached in the elder game alone does not matter."""
        old = duel(programs=[(step_to(0), either(step_to(1), row(("go", 1), ("go", 1), ("take",))))])
        new = duel([(("few", 1), "won")])
        book = solve(old, [(0, (1, 0, 2)), (1, (1, 0, 2))])
        self.assertIn((0, (2, 0, 0)), book)
        self.assertIs(differ(old, new, (1, START[1])), True)
        self.assertEqual(touched(old, new, book, [START]), [])
        self.assertEqual(renew(old, new, book, [START]), (solve(new, [START]), []))

    def test_new_positions(self):
        """They are touched, as is what leads to them, also if the games do not differ anywhere."""
        book = solve(hunt(), [hunt_start()])
        far = (0, (1, 2, 0, 1, 2, 0))
        self.assertNotIn(far, book)
        hit = touched(hunt(), hunt(), book, [hunt_start(), far])
        self.assertEqual(hit, [one for one in reachable(hunt(), [far]) if one not in book])
        renewed, changes = renew(hunt(), hunt(), book, [hunt_start(), far])
        self.assertEqual((renewed, changes), (solve(hunt(), [hunt_start(), far]), []))
        self.assertEqual(witness(hunt(), hunt(), book, far), [])
        part = {position: book[position] for position in book if position[1].count(0) > 3}
        ahead = [one for one in reachable(hunt(), [hunt_start()]) if one[1].count(0) == 3]
        self.assertEqual(touched(hunt(), hunt(), part, [hunt_start()]), ahead)
        self.assertEqual(renew(hunt(), hunt(), part, [hunt_start()]), (book, []))
        self.assertEqual(touched(hunt(), hunt(), {}, [hunt_start()]), sorted(book))
        self.assertEqual(renew(hunt(), hunt(), {}, [hunt_start()]), (book, []))

    def test_only_what_has_changed_is_told_anew(self):
        """The values of positions that are not touched are those of the book."""
        new = hunt(6, [(("few", 2), "drawn")])
        book = solve(hunt(), [hunt_start()])
        hit = touched(hunt(), new, book, [hunt_start()])
        renewed, changes = renew(hunt(), new, book, [hunt_start()])
        self.assertEqual(renewed, solve(new, [hunt_start()]))
        self.assertEqual(hit, sorted(renewed))
        self.assertEqual({position for position, _, _ in changes} - set(hit), set())
        # A book that has been made up is taken as it is where nothing is touched.
        wrong = {position: ("won", 99) for position in book}
        self.assertEqual(renew(hunt(), hunt(), wrong, [hunt_start()]), (wrong, []))

    def test_changes(self):
        """Ascending, and only of positions that are in both books with different values."""
        new = hunt(6, [(("few", 2), "drawn")])
        book = solve(hunt(), [hunt_start(), (1, (0, 2, 2, 2, 0, 1))])
        renewed, changes = renew(hunt(), new, book, [hunt_start(), (0, (1, 2, 0, 0, 1, 2))])
        self.assertEqual(changes, [(one, book[one], renewed[one]) for one in sorted(renewed)
                                   if one in book and book[one] != renewed[one]])
        self.assertGreater(len(changes), 5)
        self.assertLess(len(changes), len(renewed))

    def test_two_edits_one_after_the_other(self):
        first = edited(hunt(), "program man 0 = either(row(go east, empty), row(go west, foe, take))")
        second = edited(first, "clause 0 lost if lacks man")
        roots = [hunt_start(), (1, (1, 0, 2, 2, 0, 0))]
        book = solve(hunt(), roots)
        one, _ = renew(hunt(), first, book, roots)
        other, _ = renew(first, second, one, roots)
        self.assertEqual((one, other), (solve(first, roots), solve(second, roots)))
        self.assertNotEqual(one, book)
        back, _ = renew(second, hunt(), other, roots)
        self.assertEqual(back, book)

    def test_a_value_that_goes_round(self):
        """Play that could go on for ever leads to a new end."""
        old = ring_of(5, [(step_to(0), step_to(0))])
        start = (0, (1, 0, 0, 2, 0))
        new = ring_of(5, [(step_to(0), step_to(0))], [(("holds", 0, [4]), "lost")])
        book = solve(old, [start])
        renewed, changes = renew(old, new, book, [start])
        self.assertEqual(renewed, plain_book(new, [start]))
        self.assertEqual(len(changes), len(renewed))


class MadeEditsTest(unittest.TestCase):
    def setUp(self):
        maker = Maker(55)
        self.cases = []
        for game in made_games(55, 120) + small_rings(maker, 330):
            roots = [maker.position(game) for _ in range(maker.below(3))]
            known = roots[:1] if maker.below(4) == 0 else roots
            new = made_edit(maker, game)
            if len(reachable(new, roots)) < 90:
                self.cases.append((game, new, plain_book(game, known), roots))

    def test_against_a_slow_telling(self):
        told = {}
        for old, new, book, roots in self.cases:
            hit = touched(old, new, book, roots)
            self.assertEqual(hit, plain_touched(old, new, book, roots))
            renewed, changes = renew(old, new, book, roots)
            self.assertEqual((renewed, changes), plain_renew(old, new, book, roots))
            self.assertEqual(renewed, plain_book(new, roots))
            self.assertIsNone(judge_book(new, renewed))
            self.assertTrue({position for position, _, _ in changes} <= set(hit))
            found = (0 < len(hit) < len(renewed), len(changes) > 1, changes == [] and hit != [])
            for at, is_so in enumerate(found):
                told[at] = told.get(at, 0) + is_so
        self.assertGreater(min(told.values()), 12)

    def test_witnesses(self):
        """A touched position has one, and no other position has."""
        lengths = {}
        for old, new, book, roots in self.cases:
            hit = touched(old, new, book, roots)
            for position in reachable(new, roots)[::3]:
                line = witness(old, new, book, position)
                self.assertEqual(line, plain_witness(old, new, book, position))
                self.assertEqual(line is not None, position in hit)
                if line is not None:
                    self.assertIs(is_line(new, position, line), True)
                    last = line_after(new, position, line)
                    self.assertTrue(last not in book or plain_differ(old, new, last))
                    lengths[len(line)] = lengths.get(len(line), 0) + 1
        self.assertGreater(min(lengths.get(many, 0) for many in range(4)), 5)

    def test_nothing_is_modified(self):
        for old, new, book, roots in self.cases[::20]:
            told = (parts_of(old), parts_of(new), copy.deepcopy(book), list(book), list(roots))
            touched(old, new, book, roots).append("more")
            renewed, changes = renew(old, new, book, roots)
            renewed["more"] = ("drawn",)
            changes.append("more")
            for position in roots:
                differ(old, new, position)
                line = witness(old, new, book, position)
                if line is not None:
                    line.append("more")
            self.assertEqual((parts_of(old), parts_of(new), book, list(book), roots), told)


class WitnessTest(unittest.TestCase):
    def test_a_position_that_is_not_among_the_roots(self):
        new = duel([(("foeholds", 0, [1]), "drawn")])
        book = solve(duel(), [START])
        self.assertEqual(witness(duel(), new, book, (1, START[1])), [])
        self.assertIsNone(witness(duel(), duel(), {**book, (0, (0, 0, 0)): ("lost", 0)}, (0, (0, 0, 0))))

    def test_the_least_of_the_shortest(self):
        """The hunter can go both ways round to where the games differ, and there is a longer way, too."""
        old = ring_of(4, [(either(step_to(0), step_to(1)), either(step_to(0), step_to(1)))])
        new = ring_of(4, [(either(step_to(0), step_to(1)), either(step_to(0), step_to(1)))],
                      [(("foeholds", 0, [2]), "won")])
        start = (0, (1, 2, 0, 0))
        book = solve(old, [start])
        self.assertEqual(witness(old, new, book, start), [(0, 3, (), 0), (1, 2, (), 0)])
        self.assertEqual(witness(old, new, book, start), plain_witness(old, new, book, start))

    def test_not_through_a_position_that_is_over(self):
        """Behind a position that is over, nothing is reached, though there are moves in it."""
        clauses = [(("foeholds", 0, [1]), "lost")]
        old = duel(clauses, [(step_to(0), step_to(1))], None, [("east", [1, 2, -1]), ("west", [-1, 0, 1])])
        new = duel(clauses + [(("holds", 0, [2]), "drawn")])
        book = solve(old, [(0, (1, 0, 0))])
        self.assertEqual(sorted(book), [(0, (1, 0, 0)), (1, (0, 1, 0))])
        self.assertIsNone(witness(old, new, book, (0, (1, 0, 0))))
        self.assertEqual(touched(old, new, book, [(0, (1, 0, 0))]), [])


class TooLargeTest(unittest.TestCase):
    def check(self, call, *arguments):
        with self.assertRaises(TooLarge) as caught:
            call(*arguments)
        self.assertEqual(caught.exception.limit, "positions")
        self.assertIsInstance(caught.exception, SkewerError)

    def test_touched_and_renew(self):
        for call in (touched, renew):
            self.check(call, large(), large(), {}, [LARGE_START])

    def test_witness_also_if_it_is_found_before(self):
        self.check(witness, large(), large(), {}, LARGE_START)
        over = Game(large().board, ["man"], [(("few", 4), "won")], large().programs)
        book = solve(over, [LARGE_START])
        self.check(witness, over, large(), book, LARGE_START)
        # In the newer game there is just this position.
        self.assertEqual(witness(large(), over, {}, LARGE_START), [])
        self.assertEqual(renew(large(), over, {}, [LARGE_START]), ({LARGE_START: ("won", 0)}, []))

    def test_20000_and_one_more(self):
        """The first root leads to one position more, the others are over."""
        board = Board(16, [("on", [1] + [-1] * 15)])
        game = Game(board, ["man"], [], [(("go", 0), ("rest",))])
        roots = [(0, (1,) + (0,) * 15)]
        roots += [(0, tuple([2 * int(digit) for digit in f"{number:016b}"])) for number in range(19999)]
        self.assertEqual(len(touched(game, game, {}, roots[:19999])), 20000)
        self.assertEqual(len(renew(game, game, {}, roots[:19999])[0]), 20000)
        self.check(touched, game, game, {}, roots)
        self.check(renew, game, game, {}, roots)


if __name__ == "__main__":
    unittest.main()
