"""Promises 47 to 49: who is caught at a step, for what reason, where a dispute goes on, and its record."""

import copy
import unittest

from skewer.book import next_positions, solve
from skewer.dispute import accepts_record, follows, settle, settle_claims
from skewer.errors import SkewerError
from skewer.syntax import Board, Game
from skewer.workers import Worker
from tests.games import either, parts_of, ring_of, step_to, walk
from tests.liars import teller
from tests.made import Maker, made_games, small_rings
from tests.slow import plain_book
from tests.slow_more import plain_follows, plain_settle

UNSOUND = (None, "won", ["won", 1], ("won",), ("won", -1), ("won", True), ("drawn", 0), 5, ())
START = (0, (1, 0, 0, 2, 0, 0))
# The next positions of START, and those of the first one of these.
FIRST, SECOND = (1, (0, 0, 0, 2, 0, 1)), (1, (0, 1, 0, 2, 0, 0))
FIRST_A, FIRST_B = (0, (0, 0, 0, 0, 2, 1)), (0, (0, 0, 2, 0, 0, 1))


def ring(clauses=None):
    """Two men on a ring of six fields, who step both ways."""
    return ring_of(6, [(either(step_to(0), step_to(1)), either(step_to(0), step_to(1)))], clauses)


def hunt(size=6):
    """Two men of side 0 hunt one of side 1."""
    return ring_of(size, [(walk(0, 1), walk(0, 1))])


def three_ways():
    """The man of side 0 goes from its first field to one of three others; that of side 1 goes back and forth."""
    board = Board(6, [("a", [1, -1, -1, -1, 5, 4]), ("b", [2, -1, -1, -1, -1, -1]), ("c", [3, -1, -1, -1, -1, -1])])
    return Game(board, ["man"], [], [(either(("go", 0), ("go", 1), ("go", 2)), step_to(0))])


FORK = (0, (1, 0, 0, 0, 2, 0))
FORK_NEXTS = [(1, (0, 0, 0, 1, 2, 0)), (1, (0, 0, 1, 0, 2, 0)), (1, (0, 1, 0, 0, 2, 0))]


def answers_at(positions, claims):
    return dict(zip(positions, claims))


class FollowsTest(unittest.TestCase):
    def test_won(self):
        self.assertEqual(follows([("lost", 0)]), ("won", 1))
        self.assertEqual(follows([("won", 0), ("lost", 8), ("drawn",), ("lost", 4), ("lost", 6)]), ("won", 5))
        self.assertEqual(follows([("lost", 3), ("lost", 3)]), ("won", 4))

    def test_lost(self):
        self.assertEqual(follows([("won", 0)]), ("lost", 1))
        self.assertEqual(follows([("won", 3), ("won", 9), ("won", 5)]), ("lost", 10))

    def test_drawn(self):
        self.assertEqual(follows([("drawn",)]), ("drawn",))
        self.assertEqual(follows([("won", 3), ("drawn",), ("won", 5)]), ("drawn",))

    def test_in_any_order(self):
        maker = Maker(47)
        for _ in range(500):
            answers = [maker.one_of((("won", maker.below(9)), ("won", maker.below(9)), ("lost", maker.below(9)),
                                     ("drawn",))) for _ in range(1 + maker.below(4))]
            told = copy.deepcopy(answers)
            self.assertEqual(follows(answers), plain_follows(answers))
            self.assertEqual(answers, told)


class StepTest(unittest.TestCase):
    """Disputes of one step."""

    def check(self, game, position, claims, books, caught, asked):
        """The record is that of one step; asked tells for each worker if it is asked for the next positions."""
        later = next_positions(game, position)
        answers = tuple([book.get(one) for one in later] if is_asked else [] for book, is_asked in zip(books, asked))
        expected = ([(position, claims, answers)], caught)
        workers = [Worker(name, {**book, position: claim}) for name, book, claim in zip("ab", books, claims)]
        record = settle(game, position, workers[0], workers[1])
        self.assertEqual(record, expected)
        self.assertEqual([type(part) for part in record], [list, list])
        self.assertEqual(type(record), tuple)
        for worker, is_asked in zip(workers, asked):
            self.assertEqual(worker.asked(), [position] + (later if is_asked else []))
        workers = [Worker(name, book) for name, book in zip("ab", books)]
        self.assertEqual(settle_claims(game, position, workers[0], workers[1], claims), expected)
        for worker, is_asked in zip(workers, asked):
            self.assertEqual(worker.asked(), later if is_asked else [])
        self.assertIs(accepts_record(game, record), True)

    def test_form(self):
        right = {FIRST: ("drawn",), SECOND: ("drawn",)}
        for claim in UNSOUND:
            self.check(ring(), START, (claim, ("drawn",)), ({}, right), [(0, "form")], (False, True))
            self.check(ring(), START, (("drawn",), claim), (right, {}), [(1, "form")], (True, False))
            self.check(ring(), START, (claim, "other"), (right, right), [(0, "form"), (1, "form")], (False, False))

    def test_form_comes_before_over(self):
        game = ring([(("few", 2), "won")])
        for claim in UNSOUND:
            self.check(game, START, (claim, ("won", 0)), ({}, {}), [(0, "form")], (False, False))
            self.check(game, START, (("lost", 0), claim), ({}, {}), [(0, "over"), (1, "form")], (False, False))

    def test_over(self):
        for result, value in (("won", ("won", 0)), ("lost", ("lost", 0)), ("drawn", ("drawn",))):
            game = ring([(("few", 2), result)])
            for claim in (("won", 0), ("lost", 0), ("won", 1), ("lost", 1), ("drawn",)):
                if claim != value:
                    self.check(game, START, (claim, value), ({}, {}), [(0, "over")], (False, False))
                    self.check(game, START, (value, claim), ({}, {}), [(1, "over")], (False, False))
                    other = ("won", 2)
                    self.check(game, START, (claim, other), ({}, {}), [(0, "over"), (1, "over")], (False, False))

    def test_over_without_a_move(self):
        game = ring_of(3, [(step_to(0), step_to(0))])
        self.check(game, (0, (1, 1, 2)), (("lost", 0), ("won", 0)), ({}, {}), [(1, "over")], (False, False))
        self.check(game, (1, (1, 1, 0)), (("drawn",), ("lost", 0)), ({}, {}), [(0, "over")], (False, False))

    def test_early(self):
        right = {FIRST: ("drawn",), SECOND: ("won", 3)}
        for claim in (("won", 0), ("lost", 0)):
            self.check(ring(), START, (claim, ("drawn",)), (right, right), [(0, "early")], (False, True))
            self.check(ring(), START, (("drawn",), claim), (right, right), [(1, "early")], (True, False))
        self.check(ring(), START, (("lost", 0), ("won", 0)), (right, right), [(0, "early"), (1, "early")],
                   (False, False))

    def test_silent(self):
        drawn, won = {FIRST: ("drawn",), SECOND: ("drawn",)}, {FIRST: ("lost", 1), SECOND: ("won", 7)}
        for claim in UNSOUND:
            for mute in ({FIRST: claim, SECOND: ("drawn",)}, {FIRST: ("lost", 1), SECOND: claim},
                         {FIRST: claim, SECOND: claim}):
                self.check(ring(), START, (("won", 2), ("drawn",)), (mute, drawn), [(0, "silent")], (True, True))
                self.check(ring(), START, (("won", 2), ("drawn",)), (won, mute), [(1, "silent")], (True, True))
                self.check(ring(), START, (("won", 2), ("drawn",)), (mute, mute), [(0, "silent"), (1, "silent")],
                           (True, True))

    def test_silent_because_it_has_stopped(self):
        book = {START: ("drawn",), FIRST: ("drawn",), SECOND: ("drawn",)}
        other = {**book, START: ("won", 2), FIRST: ("lost", 1)}
        for most, expected in ((0, "form"), (1, "silent"), (2, "silent")):
            mute = Worker("a", book, most=most)
            record = settle(ring(), START, mute, Worker("b", other))
            told = [book[one] for one in (FIRST, SECOND)][:most - 1] + [None, None]
            self.assertEqual(record[1], [(0, expected)])
            self.assertEqual(record[0][0][2][0], told[:2] if most else [])
            self.assertEqual(mute.asked(), [START, FIRST, SECOND] if most else [START])
        record = settle(ring(), START, Worker("a", book, most=3), Worker("b", other))
        self.assertEqual(record[0][1][:2], (FIRST, (("drawn",), ("lost", 1))))

    def test_wrong(self):
        right = {FIRST: ("drawn",), SECOND: ("won", 3)}
        for book, value in (({FIRST: ("drawn",), SECOND: ("won", 5)}, ("drawn",)),
                            ({FIRST: ("won", 4), SECOND: ("won", 5)}, ("lost", 6)),
                            ({FIRST: ("lost", 4), SECOND: ("lost", 2)}, ("won", 3)),
                            ({FIRST: ("won", 4), SECOND: ("lost", 2)}, ("won", 3)),
                            ({FIRST: ("drawn",), SECOND: ("lost", 6)}, ("won", 7))):
            for claim in (("won", 1), ("won", 2), ("won", 3), ("won", 5), ("lost", 3), ("lost", 5), ("lost", 6),
                          ("won", 7), ("drawn",)):
                if claim != value:
                    if claim != ("drawn",):
                        self.check(ring(), START, (claim, ("drawn",)), (book, right), [(0, "wrong")], (True, True))
                        self.check(ring(), START, (("drawn",), claim), (right, book), [(1, "wrong")], (True, True))
                    if value != ("lost", 9):
                        self.check(ring(), START, (claim, ("lost", 9)), (book, right), [(0, "wrong"), (1, "wrong")],
                                   (True, True))

    def test_one_next_position(self):
        """What follows from the answers counts, also at the position of the document's example."""
        board = Board(3, [("on", [1, 2, -1]), ("off", [-1, 0, 1])])
        game = Game(board, ["man"], [], [(step_to(0), step_to(1))])
        start, later = (0, (1, 0, 2)), (1, (0, 1, 2))
        self.check(game, start, (("won", 1), ("drawn",)), ({later: ("lost", 0)}, {later: ("won", 3)}), [(1, "wrong")],
                   (True, True))

    def test_different_reasons(self):
        right = {FIRST: ("drawn",), SECOND: ("won", 3)}
        self.check(ring(), START, (None, ("won", 0)), (right, right), [(0, "form"), (1, "early")], (False, False))
        self.check(ring(), START, (("lost", 0), ("won", 3)), (right, right), [(0, "early"), (1, "wrong")],
                   (False, True))
        self.check(ring(), START, (("won", 3), ()), ({}, right), [(0, "silent"), (1, "form")], (True, False))
        self.check(ring(), START, (("won", 3), ("lost", 4)), (right, {}), [(0, "wrong"), (1, "silent")], (True, True))

    def test_true_is_no_number(self):
        right = {FIRST: ("drawn",), SECOND: ("lost", 0)}
        self.check(ring(), START, (("won", True), ("won", 1)), (right, right), [(0, "form")], (False, True))
        bent = {FIRST: ("drawn",), SECOND: ("lost", False)}
        self.check(ring(), START, (("won", 1), ("drawn",)), (bent, right), [(0, "silent"), (1, "wrong")], (True, True))


class OrderTest(unittest.TestCase):
    """Who is asked first."""

    def check(self, claims, books, expected):
        asked = []

        class Told(Worker):
            def ask(self, position):
                asked.append((self.name, position))
                return Worker.ask(self, position)

        workers = [Told(name, {**book, START: claim}) for name, book, claim in zip("ab", books, claims)]
        settle(ring(), START, workers[0], workers[1])
        self.assertEqual(asked, [("a", START), ("b", START)] + expected)

    def test_the_first_one_is_asked_for_all_before_the_second_one(self):
        both = [("a", FIRST), ("a", SECOND), ("b", FIRST), ("b", SECOND)]
        self.check((("won", 9), ("drawn",)), ({}, {}), both)
        self.check((("won", 9), ("drawn",)), ({FIRST: None, SECOND: ("won", 3)}, {FIRST: "no"}), both)

    def test_who_is_caught_already_is_not_asked(self):
        for claim in (None, "no", ("won", 0)):
            self.check((claim, ("drawn",)), ({}, {}), [("b", FIRST), ("b", SECOND)])
            self.check((("drawn",), claim), ({}, {}), [("a", FIRST), ("a", SECOND)])
        self.check((("lost", 0), ("won", 0)), ({}, {}), [])

    def test_further_steps(self):
        one = {FIRST: ("lost", 3), SECOND: ("drawn",)}
        other = {FIRST: ("drawn",), SECOND: ("drawn",)}
        self.check((("won", 4), ("drawn",)), (one, other),
                   [("a", FIRST), ("a", SECOND), ("b", FIRST), ("b", SECOND),
                    ("a", FIRST_A), ("a", FIRST_B), ("b", FIRST_A), ("b", FIRST_B)])


class SameTest(unittest.TestCase):
    def test_workers_that_tell_the_same(self):
        for claim in UNSOUND + (("won", 3), ("lost", 0), ("drawn",)):
            workers = [Worker(name, {START: claim, FIRST: name}) for name in "ab"]
            self.assertIsNone(settle(ring(), START, workers[0], workers[1]))
            self.assertEqual([worker.asked() for worker in workers], [[START], [START]])

    def test_workers_that_both_tell_nothing(self):
        self.assertIsNone(settle(ring(), START, Worker("a", {}), Worker("b", {START: ("drawn",)}, most=0)))

    def test_one_tells_nothing(self):
        record = settle(ring(), START, Worker("a", {}), Worker("b", {START: ("drawn",)}))
        self.assertEqual(record, ([(START, (None, ("drawn",)), ([], [None, None]))], [(0, "form"), (1, "silent")]))


class FurtherTest(unittest.TestCase):
    """Where a dispute goes on."""

    def check(self, claims, told, others, at):
        """The second step is at the next position of this index, with the answers for it as claims."""
        workers = [Worker("a", answers_at(FORK_NEXTS, told)), Worker("b", answers_at(FORK_NEXTS, others))]
        game = three_ways()
        self.assertEqual(next_positions(game, FORK), FORK_NEXTS)
        steps, caught = settle_claims(game, FORK, workers[0], workers[1], claims)
        self.assertEqual(steps[0], (FORK, claims, (told, others)))
        self.assertEqual(len(steps), 2)
        self.assertEqual(steps[1][:2], (FORK_NEXTS[at], (told[at], others[at])))
        self.assertEqual([reason for _, reason in caught if reason not in ("silent", "early")], [])
        self.assertIs(accepts_record(game, (steps, caught)), True)

    def check_both(self, claims, told, others, at):
        """Also with the two exchanged."""
        self.check(claims, told, others, at)
        self.check(claims[::-1], others, told, at)

    def test_the_lead_has_won(self):
        won = [("drawn",), ("lost", 4), ("lost", 4)]
        self.check_both((("won", 5), ("drawn",)), won, [("drawn",), ("won", 3), ("drawn",)], 1)
        self.check_both((("won", 5), ("won", 7)), won, [("lost", 6), ("lost", 8), ("drawn",)], 1)
        self.check_both((("won", 5), ("lost", 7)), [("lost", 6), ("won", 2), ("lost", 4)],
                        [("won", 2), ("won", 6), ("won", 4)], 2)
        self.check_both((("won", 1), ("won", 2)), [("won", 0), ("won", 0), ("lost", 0)],
                        [("lost", 1), ("lost", 1), ("lost", 1)], 2)

    def test_not_where_the_lead_has_said_lost_later(self):
        """The least position of different answers is another one."""
        told = [("lost", 8), ("lost", 6), ("lost", 4)]
        self.check_both((("won", 5), ("won", 7)), told, [("drawn",), ("lost", 6), ("lost", 8)], 2)

    def test_the_lead_has_lost(self):
        told = [("won", 3), ("won", 4), ("won", 2)]
        self.check_both((("lost", 5), ("drawn",)), told, [("won", 3), ("drawn",), ("drawn",)], 1)
        self.check_both((("lost", 5), ("drawn",)), told, [("drawn",), ("won", 4), ("won", 2)], 0)
        self.check_both((("lost", 5), ("lost", 9)), told, [("won", 3), ("won", 4), ("won", 8)], 2)
        self.check_both((("lost", 5), ("won", 9)), told, [("won", 3), ("won", 4), ("lost", 8)], 2)
        self.check_both((("lost", 5), ("won", 9)), told, [("won", 1), ("won", 4), ("lost", 8)], 0)

    def test_equal_numbers(self):
        """The first one leads."""
        won, lost = [("won", 3), ("lost", 4), ("drawn",)], [("won", 4), ("won", 4), ("won", 4)]
        self.check((("won", 5), ("lost", 5)), won, lost, 1)
        self.check((("lost", 5), ("won", 5)), lost, won, 0)

    def test_a_claim_without_a_number_is_greater_than_all(self):
        drawn = [("drawn",), ("won", 3), ("drawn",)]
        many = 10 ** 20
        self.check_both((("drawn",), ("won", many + 1)), drawn, [("won", 5), ("drawn",), ("lost", many)], 2)
        self.check_both((("drawn",), ("lost", many + 1)), drawn, [("won", 5), ("won", many), ("won", 7)], 0)

    def test_the_lead_changes(self):
        """The lead of the first step says drawn of the next position of the second step."""
        game = ring()
        one = {FIRST: ("won", 3), SECOND: ("won", 4), FIRST_A: ("drawn",), FIRST_B: ("lost", 2)}
        other = {FIRST: ("won", 2), SECOND: ("won", 5), FIRST_A: ("lost", 1), FIRST_B: ("lost", 2)}
        steps, caught = settle_claims(game, START, Worker("a", one), Worker("b", other), (("lost", 5), ("lost", 6)))
        self.assertEqual([step[0] for step in steps], [START, FIRST, FIRST_A])
        self.assertEqual([step[1] for step in steps],
                         [(("lost", 5), ("lost", 6)), (("won", 3), ("won", 2)), (("drawn",), ("lost", 1))])
        self.assertEqual(caught, [(0, "silent"), (1, "silent")])

    def test_each_reason_at_a_later_step(self):
        one = {FIRST: ("lost", 3), SECOND: ("drawn",), FIRST_A: ("won", 2), FIRST_B: ("won", 1)}
        other = {FIRST: ("drawn",), SECOND: ("drawn",), FIRST_A: ("drawn",), FIRST_B: ("won", 1)}
        claims = (("won", 4), ("drawn",))
        cases = [
            ({}, {FIRST_A: None}, [(1, "silent")]), ({FIRST_B: "no"}, {}, [(0, "silent")]),
            ({FIRST_A: ("drawn",)}, {}, [(0, "wrong")]), ({}, {FIRST_A: ("lost", 6)}, [(1, "wrong")]),
            ({FIRST_A: ("won", 1)}, {FIRST_A: ("won", 1)}, [(0, "wrong"), (1, "wrong")]),
        ]
        for more, others, caught in cases:
            books = ({**one, **more}, {**other, **others})
            record = settle_claims(ring(), START, Worker("a", books[0]), Worker("b", books[1]), claims)
            self.assertEqual((len(record[0]), record[1]), (2, caught))
            self.assertEqual(record, plain_settle(ring(), START, claims, books))

    def test_early_and_over_at_a_later_step(self):
        one, other = {FIRST: ("lost", 0), SECOND: ("drawn",)}, {FIRST: ("won", 5), SECOND: ("won", 1), FIRST_B: 1}
        claims = (("won", 1), ("lost", 6))
        record = settle_claims(ring(), START, Worker("a", one), Worker("b", other), claims)
        self.assertEqual(record[1], [(0, "early"), (1, "silent")])
        self.assertEqual(record[0][1], (FIRST, (("lost", 0), ("won", 5)), ([], [None, 1])))
        for result, caught in (("lost", [(1, "over")]), ("won", [(0, "over"), (1, "over")])):
            game = ring([(("holds", 0, [3]), result)])
            record = settle_claims(game, START, Worker("a", one), Worker("b", other), claims)
            self.assertEqual(record[1], caught)
            self.assertEqual(record[0][1], (FIRST, (("lost", 0), ("won", 5)), ([], [])))


class WholeDisputeTest(unittest.TestCase):
    def test_a_position_that_stands_there_again(self):
        """A liar whose numbers fall while play goes round is caught when there is nothing below them."""
        game = ring_of(5, [(step_to(0), step_to(0))])
        start = (0, (1, 0, 0, 2, 0))
        drawn = solve(game, [start])
        numbers = {}
        position, number = start, 9
        while position not in numbers:
            numbers[position] = ("won", number) if position[0] == 0 else ("lost", number)
            position, number = next_positions(game, position)[0], number - 1
        record = settle(game, start, Worker("a", drawn), Worker("b", numbers))
        self.assertEqual(record, plain_settle(game, start, (("drawn",), ("won", 9)), (drawn, numbers)))
        self.assertEqual([number for number, _ in record[1]], [1])
        self.assertLessEqual(len(record[0]), 10)

    def test_many_steps(self):
        """Men without a foe step on; the liar says that the other side loses in the end."""
        size = 12
        row = [field + 1 if field not in (size - 1, 2 * size - 1) else -1 for field in range(2 * size)]
        game = Game(Board(2 * size, [("on", row)]), ["man"], [], [(step_to(0), step_to(0))])
        men = [0] * (2 * size)
        men[0], men[size] = 1, 2
        start = (0, tuple(men))
        right = solve(game, [start])
        self.assertEqual(right[start], ("lost", 2 * size - 2))
        lies = {position: ("won" if value[0] == "lost" else "lost", value[1]) for position, value in right.items()}
        for first, second, caught in ((right, lies, [(1, "over")]), (lies, right, [(0, "over")])):
            record = settle(game, start, Worker("a", first), Worker("b", second))
            self.assertEqual((len(record[0]), record[1]), (2 * size - 1, caught))
            self.assertIs(accepts_record(game, record), True)

    def test_made_disputes(self):
        """Records of workers that lie at some positions, against those that the words of the document tell."""
        maker = Maker(48)
        lengths, reasons = {}, {}
        for game in made_games(48, 150) + small_rings(maker, 1200):
            start = maker.position(game)
            right = plain_book(game, [start])
            books = [teller(maker, game, start, right) for _ in range(2)]
            claims = (books[0].get(start), books[1].get(start))
            told = copy.deepcopy(books)
            record = settle(game, start, Worker("a", books[0]), Worker("b", books[1]))
            self.assertEqual(books, told)
            if claims[0] == claims[1]:
                self.assertIsNone(record)
            else:
                self.assertEqual(record, plain_settle(game, start, claims, books))
                self.assertIs(accepts_record(game, record), True)
                lengths[len(record[0])] = lengths.get(len(record[0]), 0) + 1
                self.check_facts(game, record, right, books)
                for number, reason in record[1]:
                    reasons[(number, reason)] = reasons.get((number, reason), 0) + 1
        self.assertGreater(min(lengths.get(many, 0) for many in (1, 2, 3)), 2)
        self.assertEqual(len(reasons), 10)

    def test_hunts(self):
        """One of the two tells what is right in another game, at all positions and up to the end."""
        lengths = []
        for size in (6, 7, 8):
            start = (0, (1, 1, 0, 2) + (0,) * (size - 4))
            right = solve(hunt(size), [start])
            for clauses in ([(("few", 2), "drawn")], [(("lacks", 0), "won")], [(("foeholds", 0, [0]), "won")]):
                other = solve(ring_of(size, [(walk(0, 1), walk(0, 1))], clauses), [start])
                books = [right, {**right, **other}]
                for books in (books, books[::-1]):
                    claims = (books[0][start], books[1][start])
                    record = settle(hunt(size), start, Worker("a", books[0]), Worker("b", books[1]))
                    if claims[0] == claims[1]:
                        self.assertIsNone(record)
                    else:
                        self.assertEqual(record, plain_settle(hunt(size), start, claims, books))
                        self.assertIs(accepts_record(hunt(size), record), True)
                        self.check_facts(hunt(size), record, right, books)
                        lengths.append(len(record[0]))
        self.assertGreater(max(lengths), 7)

    def check_facts(self, game, record, right, books):
        """Promise 51."""
        steps, caught = record
        numbers = [claim[1] for claim in steps[0][1] if claim is not None and claim[1:]]
        if numbers:
            self.assertLessEqual(len(steps), min(numbers) + 1)
        for number, _ in caught:
            self.assertIsNot(books[number], right)
            told = [(position, claims[number]) for position, claims, _ in steps]
            for position, _, answers in steps:
                told.extend(zip(next_positions(game, position), answers[number]))
            self.assertTrue(any(right[position] != claim for position, claim in told))

    def test_nothing_is_modified(self):
        game = hunt()
        start = (0, (1, 1, 0, 2, 0, 0))
        right = solve(game, [start])
        parts, claims = parts_of(game), (("drawn",), ("won", 3))
        book = copy.deepcopy(right)
        record = settle(game, start, Worker("a", right), Worker("b", {}))
        record[0].clear()
        settle_claims(game, start, Worker("a", {}), Worker("b", right), claims)
        self.assertEqual((parts_of(game), right, claims), (parts, book, (("drawn",), ("won", 3))))

    def test_the_record_is_new(self):
        game, claims = ring(), (["won"], ("drawn",))
        worker = Worker("b", {FIRST: ["won"], SECOND: ("drawn",)})
        record = settle_claims(game, START, Worker("a", {}), worker, claims)
        record[0][0][1][0].append(1)
        record[0][0][2][1][0].append(1)
        self.assertEqual(claims, (["won"], ("drawn",)))
        again = settle_claims(game, START, Worker("a", {}), worker, claims)
        self.assertEqual(again, ([(START, claims, ([], [["won"], ("drawn",)]))], [(0, "form"), (1, "silent")]))

    def test_no_error(self):
        """Whatever the workers say."""
        maker = Maker(49)
        for game in small_rings(maker, 40):
            start = maker.position(game)
            for one in UNSOUND:
                for other in UNSOUND:
                    try:
                        settle(game, start, Worker("a", {start: one}), Worker("b", {start: other}))
                    except SkewerError:
                        self.fail("no dispute raises an error")


if __name__ == "__main__":
    unittest.main()
