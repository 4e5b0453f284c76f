"""Promises 52 and 53: the value on which workers agree, and who is caught."""

import copy
import unittest

from skewer.book import reachable, solve
from skewer.dispute import accepts_record
from skewer.referee import agree, agreed_book
from skewer.workers import Worker
from tests.games import either, parts_of, ring_of, step_to, walk
from tests.liars import teller
from tests.made import Maker, small_rings
from tests.slow import plain_book
from tests.slow_more import plain_agree

START = (0, (1, 0, 0, 2, 0, 0))
FIRST, SECOND = (1, (0, 0, 0, 2, 0, 1)), (1, (0, 1, 0, 2, 0, 0))
NAMES = ("ann", "bob", "cid", "dan", "eve")


def ring(clauses=None):
    """Two men on a ring of six fields, who step both ways."""
    return ring_of(6, [(either(step_to(0), step_to(1)), either(step_to(0), step_to(1)))], clauses)


OVER = [(("few", 2), "lost")]
HUNT = (0, (1, 1, 0, 2, 0, 0))


def hunt():
    return ring_of(6, [(walk(0, 1), walk(0, 1))])


def workers_of(books, most=None):
    return [Worker(name, book, most=most) for name, book in zip(NAMES, books)]


def saying(claims):
    """Workers who tell these claims of START, and else nothing."""
    return workers_of([{START: claim} for claim in claims])


class AgreeTest(unittest.TestCase):
    def test_no_workers(self):
        self.assertEqual(agree(ring(), START, []), (None, [], []))

    def test_one_worker(self):
        """Whatever it says: there is nobody with whom it could have a dispute."""
        for claim in (("drawn",), ("won", 3), ("lost", 0), ("won", -1), "no", ["no"], 0, ()):
            self.assertEqual(agree(ring(), START, saying([claim])), (claim, [], []))
        self.assertEqual(agree(ring(), START, saying([None])), (None, [], []))
        self.assertEqual(agree(ring(), START, workers_of([{START: ("drawn",)}], most=0)), (None, [], []))

    def test_workers_who_tell_the_same(self):
        for claim in (("drawn",), ("won", 3), "no"):
            workers = saying([claim] * 4)
            self.assertEqual(agree(ring(), START, workers), (claim, [], []))
            self.assertEqual([worker.asked() for worker in workers], [[START]] * 4)

    def test_who_tells_nothing_does_not_vouch(self):
        workers = saying([None, ("drawn",), None, ("drawn",)])
        self.assertEqual(agree(ring(), START, workers), (("drawn",), [], []))
        workers = saying([None, ("drawn",), None, ("won", 1)])
        value, caught, records = agree(ring(), START, workers)
        self.assertEqual((value, caught, len(records)), (None, ["bob", "dan"], 1))
        self.assertEqual([worker.asked()[0] for worker in workers], [START] * 4)
        self.assertEqual([len(worker.asked()) for worker in workers], [1, 3, 1, 3])

    def test_two_workers(self):
        game = ring(OVER)
        for claims, expected in (((("lost", 0), ("won", 1)), (("lost", 0), ["bob"])),
                                 ((("won", 1), ("lost", 0)), (("lost", 0), ["ann"])),
                                 ((("won", 1), "no"), (None, ["ann", "bob"]))):
            value, caught, records = agree(game, START, saying(claims))
            self.assertEqual((value, caught), expected)
            self.assertEqual([record[0][0][1] for record in records], [claims])

    def test_the_earlier_one_is_the_first_worker(self):
        """Those who differ from the first one have a dispute with it, until it is caught."""
        game = ring(OVER)
        one, two, right = ("won", 1), ("won", 2), ("lost", 0)
        cases = [
            ([right, one, right, two, right], right, ["bob", "dan"], [(right, one), (right, two)]),
            ([right, right, one, one], right, ["cid", "dan"], [(right, one), (right, one)]),
            ([one, one, right, two], right, ["ann", "bob", "dan"], [(one, right), (one, right), (right, two)]),
            ([one, two, right], right, ["ann", "bob"], [(one, two)]),
            ([one, two, one, right, two], right, ["ann", "bob", "cid", "eve"],
             [(one, two), (one, right), (right, two)]),
            ([one, two, None, one, two], None, ["ann", "bob", "dan", "eve"], [(one, two), (one, two)]),
            ([one, two, one], one, ["ann", "bob"], [(one, two)]),
            ([one, one, None, one], one, [], []),
        ]
        for claims, value, caught, disputes in cases:
            told = agree(game, START, saying(claims))
            self.assertEqual(told[:2], (value, caught))
            self.assertEqual([record[0][0][1] for record in told[2]], disputes)
            for record in told[2]:
                self.assertIs(accepts_record(game, record), True)

    def test_each_is_asked_for_the_position_once(self):
        workers = saying([("won", 3), ("won", 5), ("drawn",)])
        agree(ring(), START, workers)
        for worker in workers:
            self.assertEqual(worker.asked().count(START), 1)

    def test_all_are_asked_before_disputes(self):
        asked = []

        class Told(Worker):
            def ask(self, position):
                asked.append((self.name, position))
                return Worker.ask(self, position)

        claims = [("won", 3), ("drawn",), None, ("won", 3)]
        agree(ring(), START, [Told(name, {START: claim}) for name, claim in zip(NAMES, claims)])
        self.assertEqual(asked[:4], [(name, START) for name in NAMES[:4]])
        self.assertEqual(asked[4:], [("ann", FIRST), ("ann", SECOND), ("bob", FIRST), ("bob", SECOND)])

    def test_workers_who_stop(self):
        right = solve(ring(), [START])
        workers = [Worker("ann", right, most=1), Worker("bob", {START: ("won", 3)}), Worker("cid", right)]
        value, caught, records = agree(ring(), START, workers)
        self.assertEqual((value, caught), (right[START], ["ann", "bob"]))
        self.assertEqual(records[0][1], [(0, "silent"), (1, "silent")])

    def test_true_is_no_number(self):
        right = {START: ("won", 1), FIRST: ("lost", 0), SECOND: ("drawn",)}
        bent = {**right, START: ("won", True)}
        for books, caught in (([bent, right], ["ann"]), ([right, bent], ["bob"])):
            value, names, _ = agree(ring(), START, workers_of(books))
            self.assertEqual((value, names), (("won", 1), caught))
            self.assertIs(type(value[1]), int)

    def test_made_workers(self):
        """Against a slow telling; with an honest one among them, promise 53."""
        maker = Maker(52)
        disputes, whole = {}, 0
        for game in small_rings(maker, 500):
            start = maker.position(game)
            right = plain_book(game, [start])
            books = [teller(maker, game, start, right) for _ in range(maker.below(6))]
            position = maker.one_of(sorted(right))
            told = copy.deepcopy(books)
            value, caught, records = agree(game, position, workers_of(books))
            self.assertEqual((value, caught, records), plain_agree(game, position, NAMES, books))
            self.assertEqual(books, told)
            if any(book == right for book in books):
                whole += caught != []
                self.assertEqual(value, right[position])
                self.assertEqual([name for name, book in zip(NAMES, books) if name in caught and book == right], [])
            vouching = [book for book in books if book.get(position) is not None]
            self.assertLess(len(records), max(len(vouching), 1))
            self.assertEqual(len(set(caught)), len(caught))
            disputes[len(records)] = disputes.get(len(records), 0) + 1
        self.assertGreater(min(disputes.get(many, 0) for many in (0, 1, 2, 3)), 4)
        self.assertGreater(whole, 20)

    def test_nothing_is_modified(self):
        game, workers = ring(OVER), saying([("won", 1), ("lost", 0), ("lost", 0)])
        parts, kept = parts_of(game), list(workers)
        value, caught, records = agree(game, START, workers)
        caught.clear()
        records.clear()
        self.assertEqual((parts_of(game), workers), (parts, kept))
        self.assertEqual(agree(game, START, workers)[1], ["ann"])


class AgreedBookTest(unittest.TestCase):
    def test_nothing(self):
        self.assertEqual(agreed_book(ring(), [], []), ({}, []))
        self.assertEqual(agreed_book(ring(), [START, FIRST], []), ({}, []))
        self.assertEqual(agreed_book(ring(), [], saying([("drawn",)])), ({}, []))

    def test_honest_workers(self):
        right = solve(hunt(), [HUNT])
        positions = reachable(hunt(), [HUNT])
        self.assertEqual(agreed_book(hunt(), positions, workers_of([right, right])), (right, []))
        self.assertEqual(agreed_book(hunt(), positions[::7], workers_of([right])),
                         ({position: right[position] for position in positions[::7]}, []))

    def test_positions_without_a_value_are_left_out(self):
        book = {START: ("drawn",), SECOND: ("won", 3)}
        self.assertEqual(agreed_book(ring(), [SECOND, FIRST, START], workers_of([book, {}])), (book, []))
        clash = [{FIRST: ("won", 0), START: "yes"}, {FIRST: ("won", -1), START: "yes"}, {START: "yes"}]
        self.assertEqual(agreed_book(ring(), [FIRST, START], workers_of(clash)), ({START: "yes"}, ["ann", "bob"]))
        self.assertEqual(agreed_book(ring(), [FIRST, START], workers_of(clash[:2])), ({}, ["ann", "bob"]))
        self.assertEqual(agreed_book(ring(), [START, FIRST], workers_of(clash[:2])), ({START: "yes"}, ["ann", "bob"]))

    def test_who_was_caught_no_longer_vouches(self):
        game = ring(OVER)
        others = [{START: ("won", 1), FIRST: ("drawn",)}, {START: ("lost", 0)}, {FIRST: ("drawn",)}]
        workers = workers_of(others)
        self.assertEqual(agreed_book(game, [START, FIRST], workers), ({START: ("lost", 0), FIRST: ("drawn",)}, ["ann"]))
        self.assertEqual([worker.asked() for worker in workers], [[START], [START, FIRST], [START, FIRST]])
        others = [{START: ("won", 1), FIRST: ("drawn",)}, {START: ("lost", 0)}]
        self.assertEqual(agreed_book(game, [START, FIRST], workers_of(others)), ({START: ("lost", 0)}, ["ann"]))
        self.assertEqual(agreed_book(game, [FIRST, START], workers_of(others)),
                         ({FIRST: ("drawn",), START: ("lost", 0)}, ["ann"]))

    def test_the_names_in_the_order_in_which_they_were_caught(self):
        game = ring(OVER)
        right = {START: ("lost", 0), FIRST: ("lost", 0), SECOND: ("lost", 0)}
        books = [{**right, SECOND: ("drawn",)}, {**right, START: ("drawn",), FIRST: ("drawn",)}, right,
                 {**right, START: ("won", 0), SECOND: ("won", 0)}, {**right, FIRST: ("won", 5)}]
        self.assertEqual(agreed_book(game, [START, FIRST, SECOND], workers_of(books)),
                         (right, ["bob", "dan", "eve", "ann"]))
        self.assertEqual(agreed_book(game, [SECOND, FIRST, START], workers_of(books)),
                         (right, ["ann", "dan", "bob", "eve"]))

    def test_a_position_that_stands_there_again(self):
        """Its value is found anew: by those who are left."""
        game = ring(OVER)
        books = [{START: ("won", 1), FIRST: ("drawn",)}, {FIRST: ("lost", 0), SECOND: ("drawn",)}]
        self.assertEqual(agreed_book(game, [START, FIRST], workers_of(books)),
                         ({START: ("won", 1), FIRST: ("lost", 0)}, ["ann"]))
        books[1][START] = ("lost", 0)
        late = [Worker("ann", books[0]), Late("bob", books[1], START)]
        self.assertEqual(agreed_book(game, [START, FIRST, START], late),
                         ({START: ("lost", 0), FIRST: ("lost", 0)}, ["ann"]))
        workers = workers_of([{START: ("drawn",)}] * 2)
        self.assertEqual(agreed_book(game, [START, START, START], workers), ({START: ("drawn",)}, []))
        self.assertEqual([worker.asked() for worker in workers], [[START] * 3] * 2)

    def test_made_workers(self):
        maker = Maker(53)
        left_out = 0
        for game in small_rings(maker, 250):
            start = maker.position(game)
            right = plain_book(game, [start])
            books = [teller(maker, game, start, right) for _ in range(1 + maker.below(4))]
            positions = [maker.one_of(sorted(right)) for _ in range(maker.below(6))]
            expected, names = {}, []
            for position in positions:
                left = [(name, book) for name, book in zip(NAMES, books) if name not in names]
                value, caught, _ = plain_agree(game, position, [name for name, _ in left], [book for _, book in left])
                names.extend(caught)
                if value is not None:
                    expected[position] = value
            book, caught = agreed_book(game, positions, workers_of(books))
            self.assertEqual((book, caught), (expected, names))
            left_out += len(book) < len(set(positions))
            if right in books:
                self.assertEqual(book, {position: right[position] for position in positions})
        self.assertGreater(left_out, 5)

    def test_nothing_is_modified(self):
        game, workers, positions = ring(OVER), saying([("won", 1), ("lost", 0)]), [START, FIRST]
        parts, kept = parts_of(game), list(workers)
        book, caught = agreed_book(game, positions, workers)
        book.clear()
        caught.clear()
        self.assertEqual((parts_of(game), workers, positions), (parts, kept, [START, FIRST]))


class Late(Worker):
    """A worker that says nothing when it is first asked for a position."""

    def __init__(self, name, answers, position):
        Worker.__init__(self, name, answers)
        self.position = position

    def ask(self, position):
        is_first = position == self.position and position not in self.asked()
        answer = Worker.ask(self, position)
        return None if is_first else answer


if __name__ == "__main__":
    unittest.main()
