"""Promises 38 to 41: mirrors of a game, of positions and of moves, representatives and small books."""

import copy
import itertools
import unittest

from skewer.book import next_positions, over_value, solve
from skewer.clauses import end
from skewer.errors import SkewerError, TooLarge
from skewer.mirror import (is_mirror, joined, mirrored, mirrored_move, mirrors, representative, small_book, undone,
                           value_by)
from skewer.runs import after, moves
from skewer.syntax import Board, Game
from tests.games import board_of, capture, either, game_of, parts_of, ring_of, row, step_to, walk
from tests.made import Maker
from tests.slow import all_positions, is_plain_mirror, plain_mirrors

REST = (("rest",), ("rest",))


def still(size, leads, clauses=None, programs=None):
    """A game with these ways; if no programs are given, its men never go."""
    ways = [("way" + "abcdefgh"[way], one) for way, one in enumerate(leads)]
    return Game(Board(size, ways), ["man", "king"][:len(programs or [REST])], clauses or [], programs or [REST])


def grid(wide, high, programs, clauses=None):
    """A game on a grid, with the ways east, west, south and north."""
    leads = []
    for right, down in ((1, 0), (-1, 0), (0, 1), (0, -1)):
        leads.append([(y + down) * wide + x + right if 0 <= x + right < wide and 0 <= y + down < high else -1
                      for y in range(high) for x in range(wide)])
    return still(wide * high, leads, clauses, programs)


def unchanged(game):
    return (tuple(range(game.board.size)), tuple(range(len(game.board.ways))), False)


def shuffled(maker, size):
    """A way that leads to each field from one."""
    left = list(range(size))
    return [left.pop(maker.below(len(left))) for _ in range(size)]


def symmetric_games(seed, number):
    """Small games, of which many have mirrors."""
    maker = Maker(seed)
    games = []
    while len(games) < number:
        size, ways, kinds = 1 + maker.below(4), 1 + maker.below(3), 1 + maker.below(2)
        game = maker.game(size, ways, kinds, 3)
        way, other = maker.below(ways), maker.below(ways)
        pool = (REST, (step_to(way), step_to(other)), (walk(way), walk(way)), (walk(way, other), walk(other, way)),
                (row(("go", way), capture(other)), row(("go", other), capture(way))), (either(), ("go", other)))
        programs = [maker.one_of(pool + (game.programs[kind],)) for kind in range(kinds)]
        clauses = game.clauses if maker.below(2) else [(("few", 1), "drawn")]
        games.append(Game(game.board, game.kinds, clauses, programs))
    return games


class IsMirrorTest(unittest.TestCase):
    def setUp(self):
        self.game = ring_of(4, [(step_to(0), step_to(1))])

    def check(self, expected, fields, ways, exchange, game=None):
        with self.subTest(fields=fields, ways=ways, exchange=exchange):
            self.assertIs(is_mirror(game or self.game, (fields, ways, exchange)), expected)

    def test_the_one_that_changes_nothing(self):
        self.check(True, (0, 1, 2, 3), (0, 1), False)
        self.check(False, (0, 1, 2, 3), (0, 1), True)

    def test_turned_and_reflected(self):
        for turn in range(4):
            turned = tuple((field + turn) % 4 for field in range(4))
            reflected = tuple((turn - field) % 4 for field in range(4))
            self.check(True, turned, (0, 1), False)
            self.check(True, reflected, (1, 0), True)
            self.check(False, turned, (0, 1), True)
            self.check(False, turned, (1, 0), False)
            self.check(False, reflected, (1, 0), False)
            self.check(False, reflected, (0, 1), True)

    def test_other_orders_of_fields(self):
        for fields in itertools.permutations(range(4)):
            expected = all((fields[(field + 1) % 4] - fields[field]) % 4 == 1 for field in range(4))
            self.check(expected, fields, (0, 1), False)

    def test_tuples_of_other_lengths(self):
        for fields in ((), (0,), (0, 1, 2), (0, 1, 2, 3, 4), (1, 2, 3, 0, 4)):
            self.check(False, fields, (0, 1), False)
        for ways in ((), (0,), (0, 1, 2), (2, 0, 1)):
            self.check(False, (0, 1, 2, 3), ways, False)
        self.check(False, (), (), False)

    def test_fields_and_ways_twice_or_out_of_range(self):
        for fields in ((0, 0, 2, 3), (0, 1, 2, 2), (1, 1, 1, 1), (1, 2, 3, 4), (-1, 0, 1, 2), (0, 1, 2, 99),
                       (0, 1, 2, -1), (4, 1, 2, 3)):
            self.check(False, fields, (0, 1), False)
        for ways in ((0, 0), (1, 1), (1, 2), (0, -1), (-2, -1), (0, 99)):
            self.check(False, (0, 1, 2, 3), ways, False)
            self.check(False, (0, 1, 2, 3), ways, True)

    def test_a_way_that_leads_nowhere(self):
        game = still(3, [[1, -1, -1]])
        self.check(True, (0, 1, 2), (0,), False, game)
        for fields in ((0, 2, 1), (1, 0, 2), (2, 1, 0), (1, 2, 0), (2, 0, 1)):
            self.check(False, fields, (0,), False, game)
        game = still(3, [[1, 0, -1]])
        self.check(True, (1, 0, 2), (0,), False, game)
        self.check(False, (0, 2, 1), (0,), False, game)
        game = still(2, [[-1, -1], [0, -1], [0, -1]])
        self.check(True, (0, 1), (0, 2, 1), False, game)
        self.check(False, (0, 1), (1, 0, 2), False, game)
        self.check(False, (1, 0), (0, 1, 2), False, game)

    def test_programs(self):
        leads = [[1, 0], [1, 0]]
        for first, second, same, other in (
            (("go", 0), ("go", 0), False, False), (("go", 0), ("go", 1), False, True), (("empty",), ("foe",), True, False),
            (("empty",), ("empty",), True, True), (either(("go", 0), ("go", 1)), either(("go", 1), ("go", 0)), False, True),
            (either(("go", 0), ("go", 1)), either(("go", 0), ("go", 1)), False, False),
            (("any", row(("go", 0), ("lay", 0))), ("any", row(("go", 1), ("lay", 0))), False, True),
            (("at", 0), ("lay", 0), True, False), (row(), either(), True, False), (row(), ("rest",), True, False),
        ):
            game = still(2, leads, [], [(first, second)])
            self.check(True, (0, 1), (0, 1), False, game)
            self.check(first == second, (0, 1), (0, 1), True, game)
            self.check(same, (0, 1), (1, 0), False, game)
            self.check(other, (0, 1), (1, 0), True, game)

    def test_each_kind_counts(self):
        leads = [[1, 0], [1, 0]]
        game = still(2, leads, [], [(("go", 0), ("go", 1)), (("go", 1), ("go", 0))])
        self.check(True, (0, 1), (1, 0), True, game)
        # A kind's program is not that of another kind.
        self.check(False, (0, 1), (1, 0), False, game)
        game = still(2, leads, [], [(("go", 0), ("go", 1)), (("go", 1), ("go", 1))])
        self.check(False, (0, 1), (1, 0), True, game)

    def test_clauses(self):
        cases = [
            (("holds", 0, [0]), False), (("holds", 0, [0, 1]), True), (("foeholds", 0, [2, 3]), True),
            (("foeholds", 0, [1, 2]), False), (("lacks", 0), True), (("few", 2), True), (("stuck",), True),
            (("not", ("holds", 0, [0, 1, 2, 3])), True), (("not", ("not", ("holds", 0, [3]))), False),
            (("and", ("holds", 0, [0, 1]), ("holds", 0, [2])), False),
            (("or", ("holds", 0, [0]), ("holds", 0, [1])), False),
            (("or", ("foelacks", 0), ("and", ("stuck",), ("foeholds", 0, [0, 1]))), True),
        ]
        for condition, expected in cases:
            game = still(4, [[-1] * 4], [(("lacks", 0), "lost"), (condition, "won")])
            self.check(expected, (1, 0, 3, 2), (0,), False, game)
            self.check(True, (0, 1, 2, 3), (0,), True, game)

    def test_made_games(self):
        maker = Maker(38)
        count = 0
        for game in symmetric_games(38, 150):
            size, ways = game.board.size, len(game.board.ways)
            for mirror in itertools.product(itertools.permutations(range(size)), itertools.permutations(range(ways)),
                                            (False, True)):
                if maker.below(3) == 0:
                    expected = is_plain_mirror(game, mirror)
                    count += expected
                    self.assertIs(is_mirror(game, mirror), expected)
        self.assertGreater(count, 80)


class MirrorsTest(unittest.TestCase):
    def test_ring_without_exchange(self):
        game = ring_of(5, [(step_to(0), capture(0))])
        turned = [(tuple((field + turn) % 5 for field in range(5)), (0, 1), False) for turn in range(5)]
        self.assertEqual(mirrors(game), turned)

    def test_ring_with_exchange(self):
        game = ring_of(4, [(step_to(0), step_to(1))])
        self.assertEqual(mirrors(game), sorted(
            [(tuple((field + turn) % 4 for field in range(4)), (0, 1), False) for turn in range(4)]
            + [(tuple((turn - field) % 4 for field in range(4)), (1, 0), True) for turn in range(4)]))

    def test_false_before_true(self):
        game = ring_of(3, [(step_to(0), step_to(0))])
        expected = [(fields, (0, 1), exchange) for fields in ((0, 1, 2), (1, 2, 0), (2, 0, 1))
                    for exchange in (False, True)]
        found = mirrors(game)
        self.assertEqual(found, expected)
        self.assertEqual({type(mirror[2]) for mirror in found}, {bool})
        self.assertEqual({type(part) for mirror in found for part in mirror[:2]}, {tuple})

    def test_ways_that_no_program_has(self):
        game = still(2, [[1, 0], [1, 0], [0, 1]], [], [(("rest",), ("empty",))])
        expected = [(fields, ways, False) for fields in ((0, 1), (1, 0)) for ways in ((0, 1, 2), (1, 0, 2))]
        self.assertEqual(mirrors(game), expected)

    def test_only_the_one_that_changes_nothing(self):
        ring = ring_of(4, [(step_to(0), ("rest",))])
        self.assertEqual(len(mirrors(ring)), 4)
        games = [
            # By the ways, a clause, and the programs.
            still(4, [[1, 2, 3, -1]], [], [(("go", 0), ("rest",))]),
            ring_of(4, [(step_to(0), ("rest",))], [(("holds", 0, [1]), "won")]),
            still(1, [[0], [0]], [], [(("go", 0), ("rest",))]),
        ]
        for game in games:
            self.assertEqual(mirrors(game), [unchanged(game)])

    def test_what_looks_alike_but_is_not(self):
        """Ways that go round, of which each alone, and what lies around each field, looks alike from several fields."""
        for leads in ([[2, 1, 3, 0], [0, 3, 2, 1]], [[3, 4, 0, 1, 2], [1, 0, 3, 4, 2]],
                      [[4, 3, 2, 0, 5, 1], [2, 0, 1, 3, 4, 5]], [[5, 6, 0, 2, 1, 3, 4], [3, 2, 1, 0, 5, 4, -1]]):
            game = still(len(leads[0]), leads, [], [(row(("go", 0), ("go", 1)), ("foe",))])
            self.assertEqual(mirrors(game), [unchanged(game)])

    def test_ways_that_go_round(self):
        maker = Maker(49)
        numbers = {}
        for _ in range(120):
            size = 3 + maker.below(3)
            leads = [shuffled(maker, size) for _ in range(1 + maker.below(2))]
            programs = maker.one_of((REST, (("go", 0), ("foe",)), (("go", 0), ("go", len(leads) - 1))))
            game = still(size, leads, [], [programs])
            found = mirrors(game)
            self.assertEqual(found, plain_mirrors(game))
            numbers[len(found)] = numbers.get(len(found), 0) + 1
        self.assertGreater(len(numbers), 8)

    def test_clauses_leave_some(self):
        for condition, number in ((("holds", 0, [0, 2]), 2), (("foeholds", 0, [0, 1, 2, 3]), 4), (("few", 3), 4),
                                  (("and", ("holds", 0, [0, 2]), ("not", ("holds", 0, [1, 3]))), 2),
                                  (("and", ("holds", 0, [0, 2]), ("not", ("holds", 0, [1]))), 1)):
            self.assertEqual(len(mirrors(ring_of(4, [(step_to(0), ("rest",))], [(condition, "won")]))), number)

    def test_one_field(self):
        game = Game(Board(1, [("on", [0])]), ["man"], [], [(("go", 0), ("go", 0))])
        self.assertEqual(mirrors(game), [((0,), (0,), False), ((0,), (0,), True)])

    def test_grids(self):
        turning = either(*[step_to(way) for way in range(4)])
        self.assertEqual(len(mirrors(grid(3, 3, [(turning, turning)]))), 2)
        self.assertEqual(len(mirrors(grid(3, 3, [REST]))), 16)
        self.assertEqual(len(mirrors(grid(6, 4, [REST]))), 8)
        found = mirrors(grid(3, 2, [(step_to(0), step_to(1))]))
        self.assertEqual(found, [
            ((0, 1, 2, 3, 4, 5), (0, 1, 2, 3), False), ((2, 1, 0, 5, 4, 3), (1, 0, 2, 3), True),
            ((3, 4, 5, 0, 1, 2), (0, 1, 3, 2), False), ((5, 4, 3, 2, 1, 0), (1, 0, 3, 2), True),
        ])

    def test_rings_of_several_lengths(self):
        """Fields of rings of other lengths look alike until one goes round."""
        leads = [1, 2, 0, 4, 5, 3, 7, 8, 9, 10, 11, 6]
        found = mirrors(still(12, [leads], [], [(("go", 0), ("foe",))]))
        self.assertEqual(len(found), 3 * 3 * 2 * 6)
        self.assertTrue(all(is_plain_mirror(still(12, [leads], [], [(("go", 0), ("foe",))]), one) for one in found))

    def test_400_mirrors_and_more(self):
        ten = [(field + 1) % 10 for field in range(10)]
        two_tens = ten + [10 + field for field in ten]
        foe = (("go", 0), ("foe",))
        self.assertEqual(len(mirrors(still(20, [two_tens], [], [foe]))), 200)
        found = mirrors(still(22, [two_tens + [-1, -1]], [], [foe]))
        self.assertEqual((len(found), len(set(found)), found), (400, 400, sorted(found)))
        self.assertEqual(len(mirrors(still(20, [two_tens], [], [(("go", 0), ("go", 0))]))), 400)
        for game in (still(23, [two_tens + [21, 22, 20]], [], [foe]), still(23, [two_tens + [-1] * 3], [], [foe]),
                     still(22, [two_tens + [-1, -1]], [], [(("go", 0), ("go", 0))]), still(6, [[-1] * 6]),
                     still(24, [[-1] * 24] * 8), still(24, [[(field + 1) % 24 for field in range(24)]] * 8)):
            with self.assertRaises(TooLarge) as caught:
                mirrors(game)
            self.assertEqual(caught.exception.limit, "mirrors")
            self.assertIsInstance(caught.exception, SkewerError)

    def test_made_games(self):
        numbers = {}
        for game in symmetric_games(39, 500):
            found = mirrors(game)
            self.assertEqual(found, plain_mirrors(game))
            numbers[len(found)] = numbers.get(len(found), 0) + 1
        for number in (1, 2, 4):
            self.assertGreater(numbers.get(number, 0), 10)
        self.assertGreater(max(numbers), 10)

    def test_nothing_is_modified(self):
        game = ring_of(4, [(step_to(0), step_to(1))], [(("holds", 0, [0, 2]), "won")])
        told = parts_of(game)
        mirrors(game).append("more")
        is_mirror(game, unchanged(game))
        self.assertEqual(parts_of(game), told)


class MirroredTest(unittest.TestCase):
    def test_positions(self):
        turned = ((1, 2, 0), (0,), False)
        self.assertEqual(mirrored(turned, (0, (1, 0, 2))), (0, (2, 1, 0)))
        self.assertEqual(mirrored(turned, (1, (1, 0, 2))), (1, (2, 1, 0)))
        self.assertEqual(mirrored(((0, 1, 2), (0,), True), (0, (1, 0, 4))), (1, (2, 0, 3)))
        self.assertEqual(mirrored(((1, 2, 0), (0,), True), (1, (2, 0, 3))), (0, (4, 1, 0)))

    def test_moves(self):
        turned = ((1, 2, 3, 0), (0, 1), False)
        self.assertEqual(mirrored_move(turned, (0, 3, (), 1)), (1, 0, (), 1))
        self.assertEqual(mirrored_move(turned, (0, 0, (1, 2, 3), 0)), (1, 1, (0, 2, 3), 0))
        self.assertEqual(mirrored_move(((3, 2, 1, 0), (1, 0), True), (0, 3, (1, 2), 5)), (3, 0, (1, 2), 5))

    def test_joined_and_undone(self):
        turned = ((1, 2, 0), (0,), False)
        self.assertEqual(joined(turned, turned), ((2, 0, 1), (0,), False))
        self.assertEqual(undone(turned), ((2, 0, 1), (0,), False))
        first, second = ((1, 0, 2), (1, 2, 0), True), ((2, 0, 1), (1, 0, 2), False)
        self.assertEqual(joined(first, second), ((0, 2, 1), (0, 2, 1), True))
        self.assertEqual(joined(second, first), ((2, 1, 0), (2, 1, 0), True))
        self.assertEqual(joined(first, first), ((0, 1, 2), (2, 0, 1), False))
        self.assertEqual(undone(first), ((1, 0, 2), (2, 0, 1), True))
        self.assertEqual([type(part) for part in joined(first, second) + undone(first)],
                         [tuple, tuple, bool] * 2)

    def test_they_are_a_group(self):
        for game in (ring_of(4, [(step_to(0), step_to(1))]), grid(2, 2, [REST]), ring_of(3, [(walk(0), walk(0))])):
            known = mirrors(game)
            for first in known:
                self.assertIn(undone(first), known)
                self.assertEqual(joined(first, undone(first)), unchanged(game))
                self.assertEqual(joined(undone(first), first), unchanged(game))
                for second in known:
                    self.assertIn(joined(first, second), known)

    def test_one_after_the_other(self):
        maker = Maker(40)
        game = grid(2, 2, [REST, REST])
        for _ in range(200):
            first, second = [maker.one_of(mirrors(game)) for _ in range(2)]
            position = maker.position(game)
            self.assertEqual(mirrored(joined(first, second), position), mirrored(second, mirrored(first, position)))
            self.assertEqual(mirrored(undone(first), mirrored(first, position)), position)
            move = (maker.below(4), maker.below(4), (0, 2), 1)
            self.assertEqual(mirrored_move(joined(first, second), move),
                             mirrored_move(second, mirrored_move(first, move)))

    def test_moves_ends_and_values(self):
        """Promise 40."""
        maker = Maker(44)
        count = 0
        games = [game for game in symmetric_games(44, 120) if len(mirrors(game)) > 1]
        games += [ring_of(5, [(walk(0), walk(1)), (step_to(1), step_to(0))]),
                  ring_of(4, [(walk(0, 1), walk(1, 0))], [(("few", 2), "drawn")])] * 10
        for game in games:
            for _ in range(4):
                position, mirror = maker.position(game), maker.one_of(mirrors(game))
                other = mirrored(mirror, position)
                found = moves(game, position)
                count += len(found)
                self.assertEqual(moves(game, other), sorted([mirrored_move(mirror, move) for move in found]))
                for move in found:
                    self.assertEqual(after(game, other, mirrored_move(mirror, move)),
                                     mirrored(mirror, after(game, position, move)))
                self.assertEqual(end(game, other), end(game, position))
                self.assertEqual(over_value(game, other), over_value(game, position))
                self.assertEqual(next_positions(game, other),
                                 sorted([mirrored(mirror, later) for later in next_positions(game, position)]))
                book, others = solve(game, [position]), solve(game, [other])
                self.assertEqual({mirrored(mirror, one): book[one] for one in book}, others)
        self.assertGreater(count, 100)


class SmallBookTest(unittest.TestCase):
    def setUp(self):
        self.game = ring_of(6, [(walk(0, 1), walk(0, 1))])
        self.known = mirrors(self.game)
        self.book = solve(self.game, [(0, (1, 1, 0, 2, 0, 0))])

    def test_representative(self):
        turns = [((1, 2, 0), (0,), False), ((2, 0, 1), (0,), False)]
        self.assertEqual(representative(turns, (0, (1, 0, 2))), (0, (0, 2, 1)))
        self.assertEqual(representative(turns[:1], (0, (1, 0, 2))), (0, (1, 0, 2)))
        self.assertEqual(representative(turns[1:], (0, (1, 0, 2))), (0, (0, 2, 1)))
        self.assertEqual(representative([((0, 1, 2), (0,), True)], (1, (1, 0, 2))), (0, (2, 0, 1)))
        self.assertEqual(representative([((0, 1, 2), (0,), True)], (0, (1, 0, 2))), (0, (1, 0, 2)))

    def test_no_mirrors(self):
        self.assertEqual(representative([], (1, (2, 0, 1))), (1, (2, 0, 1)))
        self.assertEqual(small_book([], self.book), self.book)

    def test_one_for_all_mirrors(self):
        for position in self.book:
            least = representative(self.known, position)
            self.assertEqual(least, min(mirrored(mirror, position) for mirror in self.known))
            for mirror in self.known:
                self.assertEqual(representative(self.known, mirrored(mirror, position)), least)

    def test_small_book(self):
        small = small_book(self.known, self.book)
        self.assertEqual(set(small), {representative(self.known, position) for position in self.book})
        self.assertLess(len(small) * 4, len(self.book))
        for position in self.book:
            self.assertEqual(small[representative(self.known, position)], self.book[position])

    def test_representatives_that_the_book_does_not_have(self):
        position = (1, (2, 0, 0, 1, 1, 0))
        self.assertNotEqual(representative(self.known, position), position)
        self.assertEqual(small_book(self.known, {position: ("won", 9)}),
                         {representative(self.known, position): ("won", 9)})

    def test_the_value_is_that_of_the_representative(self):
        turn = [((1, 0), (0,), False)]
        book = {(0, (1, 0)): ("won", 1), (0, (0, 1)): ("drawn",)}
        self.assertEqual(small_book(turn, book), {(0, (0, 1)): ("drawn",)})
        self.assertEqual(small_book(turn, dict(sorted(book.items()))), {(0, (0, 1)): ("drawn",)})

    def test_empty_book(self):
        self.assertEqual(small_book(self.known, {}), {})

    def test_value_by(self):
        small = small_book(self.known, self.book)
        for position in self.book:
            self.assertEqual(value_by(self.known, small, position), self.book[position])
        # By exchange, positions are there that the book itself does not have.
        others = [mirrored(mirror, position) for mirror in self.known for position in self.book]
        self.assertTrue(any(position not in self.book for position in others))
        whole = solve(self.game, others)
        for position in others:
            self.assertEqual(value_by(self.known, small, position), whole[position])

    def test_value_by_of_positions_that_are_not_there(self):
        small = small_book(self.known, self.book)
        for position in ((0, (1, 1, 1, 2, 0, 0)), (1, (0, 0, 0, 0, 0, 0)), (0, (2, 2, 2, 2, 2, 2))):
            self.assertIsNone(value_by(self.known, small, position))
        self.assertIsNone(value_by([], small, max(self.book)))
        self.assertIsNone(value_by(self.known, {}, max(self.book)))

    def test_all_positions_of_a_small_game(self):
        game = ring_of(4, [(walk(0), walk(1))], [(("few", 1), "drawn")])
        known = mirrors(game)
        book = solve(game, all_positions(game))
        small = small_book(known, book)
        self.assertEqual(len(known), 8)
        self.assertLess(len(small) * 6, len(book))
        for position in book:
            self.assertEqual(value_by(known, small, position), book[position])

    def test_nothing_is_modified(self):
        known, book = copy.deepcopy(self.known), copy.deepcopy(self.book)
        small = small_book(known, book)
        value_by(known, small, max(book))
        representative(known, max(book))
        self.assertEqual((known, book), (self.known, self.book))
        self.assertEqual(list(book), list(self.book))
        self.assertEqual(small, small_book(self.known, self.book))


if __name__ == "__main__":
    unittest.main()
