"""Promises 50 and 51: when a record is accepted."""

import copy
import unittest

from skewer.book import next_positions, solve
from skewer.dispute import accepts_record, settle, settle_claims
from skewer.workers import Worker
from tests.games import either, parts_of, ring_of, step_to, walk
from tests.liars import teller
from tests.made import Maker, small_rings
from tests.slow import plain_book
from tests.slow_more import plain_accepts

START = (0, (1, 0, 0, 2, 0, 0))
FIRST, SECOND = (1, (0, 0, 0, 2, 0, 1)), (1, (0, 1, 0, 2, 0, 0))
CLAIMS = (None, "no", ("won",), ("won", -1), ("won", 0), ("won", 1), ("won", 2), ("won", 9), ("lost", 0), ("lost", 1),
          ("lost", 2), ("lost", 8), ("drawn",), ("drawn", 0))
REASONS = ("form", "over", "early", "silent", "wrong")


def ring(clauses=None):
    """Two men on a ring of six fields, who step both ways."""
    return ring_of(6, [(either(step_to(0), step_to(1)), either(step_to(0), step_to(1)))], clauses)


def with_step(record, index, step):
    steps, caught = record
    return (steps[:index] + [step] + steps[index + 1:], caught)


def with_answer(answers, number, index, claim):
    told = list(answers[number])
    told[index] = claim
    return (told, answers[1]) if number == 0 else (answers[0], told)


def changes_of(record, positions):
    """Records of the described form in which one thing is another one."""
    steps, caught = record
    found = [([], caught), (steps, []), ([], []), (steps, caught[::-1]), (steps, caught + caught)]
    for index, (position, claims, answers) in enumerate(steps):
        found.append((steps[:index] + steps[index + 1:], caught))
        found.append((steps[:index + 1] + steps[index:], caught))
        found.append((steps[:index] + steps[index:][::-1], caught))
        found.append((steps[:index + 1], caught))
        found.extend([with_step(record, index, (other, claims, answers)) for other in positions])
        found.append(with_step(record, index, (position, claims[::-1], answers)))
        found.append(with_step(record, index, (position, claims, answers[::-1])))
        for claim in CLAIMS:
            found.append(with_step(record, index, (position, (claim, claims[1]), answers)))
            found.append(with_step(record, index, (position, (claims[0], claim), answers)))
            for number in (0, 1):
                found.extend([with_step(record, index, (position, claims, with_answer(answers, number, at, claim)))
                              for at in range(len(answers[number]))])
        for more in (answers[0][:-1], answers[0] + [("drawn",)], [], [None]):
            found.append(with_step(record, index, (position, claims, (more, answers[1]))))
        for more in (answers[1][:-1], answers[1] + [("drawn",)], [], [None]):
            found.append(with_step(record, index, (position, claims, (answers[0], more))))
    for reason in REASONS:
        found.extend([(steps, [(number, reason) if pair[0] == number else pair for pair in caught])
                      for number, _ in caught])
        found.extend([(steps, caught + [(number, reason)]) for number in (0, 1)])
        found.extend([(steps, [(number, reason)] + caught) for number in (0, 1)])
        found.extend([(steps, [(0, reason)]), (steps, [(1, reason)])])
    return found


class RecordsTest(unittest.TestCase):
    def check(self, game, record, positions):
        """The record is accepted; those that are changed in one thing, as the words of the document tell."""
        self.assertIs(accepts_record(game, record), True)
        told, parts = copy.deepcopy(record), parts_of(game)
        accepted = 0
        for other in changes_of(record, positions):
            verdict = accepts_record(game, other)
            self.assertIs(verdict, plain_accepts(game, other), other)
            accepted += verdict and other != record
        self.assertEqual((record, parts_of(game)), (told, parts))
        return accepted

    def test_one_step(self):
        right = {FIRST: ("drawn",), SECOND: ("won", 3)}
        near = [START, FIRST, SECOND, (1, START[1]), (0, (0,) * 6)]
        for claims, books in (((None, ("drawn",)), ({}, right)), ((("drawn",), "no"), (right, {})),
                              (("no", None), ({}, {})), ((("lost", 0), ("drawn",)), (right, right)),
                              ((("lost", 0), ("won", 0)), (right, right)), ((("won", 4), ("drawn",)), (right, right)),
                              ((("won", 4), ("lost", 4)), (right, {})), ((("won", 4), None), ({FIRST: None}, {}))):
            record = settle_claims(ring(), START, Worker("a", books[0]), Worker("b", books[1]), claims)
            self.assertEqual(len(record[0]), 1)
            self.check(ring(), record, near)

    def test_one_step_at_a_position_that_is_over(self):
        for result in ("won", "lost", "drawn"):
            game = ring([(("few", 2), result)])
            for claims in ((("won", 0), ("lost", 0)), (("drawn",), ("won", 2)), (("lost", 0), None)):
                record = settle_claims(game, START, Worker("a", {}), Worker("b", {}), claims)
                self.check(game, record, [START, FIRST])

    def test_several_steps(self):
        for size, many in ((6, 4), (7, 6)):
            game = ring_of(size, [(walk(0, 1), walk(0, 1))])
            start = (0, (1, 1, 0, 2) + (0,) * (size - 4))
            right = solve(game, [start])
            other = solve(ring_of(size, [(walk(0, 1), walk(0, 1))], [(("few", 2), "drawn")]), [start])
            for books in ((right, {**right, **other}), ({**right, **other}, right)):
                record = settle(game, start, Worker("a", books[0]), Worker("b", books[1]))
                self.assertEqual(len(record[0]), many)
                self.assertEqual(self.check(game, record, sorted(right)[::9]) > 0, True)

    def test_made_records(self):
        maker = Maker(50)
        several = 0
        for game in small_rings(maker, 300):
            start = maker.position(game)
            right = plain_book(game, [start])
            books = [teller(maker, game, start, right) for _ in range(2)]
            record = settle(game, start, Worker("a", books[0]), Worker("b", books[1]))
            if record is not None and (len(record[0]) > 1 or maker.below(10) == 0):
                several += len(record[0]) > 1
                self.check(game, record, sorted(right)[:4])
        self.assertGreater(several, 10)

    def test_claims_that_do_not_differ(self):
        right = {FIRST: ("drawn",), SECOND: ("won", 3)}
        answers = ([right[FIRST], right[SECOND]], [right[FIRST], right[SECOND]])
        for claim, caught in ((("won", 4), "wrong"), (("won", 0), "early"), (None, "form")):
            told = answers if caught == "wrong" else ([], [])
            both = [(0, caught), (1, caught)]
            self.assertIs(accepts_record(ring(), ([(START, (claim, claim), told)], both)), False)
        claims = (("won", 4), ("won", 5))
        self.assertIs(accepts_record(ring(), ([(START, claims, answers)], [(0, "wrong"), (1, "wrong")])), True)

    def test_true_is_no_number(self):
        drawn = [("drawn",), ("drawn",)]
        claims = (("won", True), ("won", 1))
        record = ([(START, claims, ([], drawn))], [(0, "form"), (1, "wrong")])
        self.assertIs(accepts_record(ring(), record), True)
        first = (START, (("won", 2), ("drawn",)), ([("lost", 1), ("drawn",)], drawn))
        for number, expected in ((1, True), (True, False)):
            caught = [(0, "silent" if number is not True else "form"), (1, "silent")]
            told = [None, None] if number is not True else []
            second = (FIRST, (("lost", number), ("drawn",)), (told, [None, None]))
            self.assertIs(accepts_record(ring(), ([first, second], caught)), expected)

    def test_nobody_is_caught(self):
        drawn = [("drawn",), ("drawn",)]
        step = (START, (("won", 2), ("drawn",)), ([("lost", 1), ("drawn",)], drawn))
        for caught in ([], [(0, "wrong")], [(1, "wrong")]):
            self.assertIs(accepts_record(ring(), ([step], caught)), False)

    def test_who_is_caught_ahead_of_the_last_step(self):
        """Nothing stands behind a step at which someone is caught."""
        drawn = [("drawn",), ("drawn",)]
        first = (START, (("won", 2), ("lost", 1)), ([("lost", 1), ("drawn",)], drawn))
        second = (FIRST, (("lost", 1), ("drawn",)), ([None, None], drawn))
        self.assertIs(accepts_record(ring(), ([first, second], [(0, "silent")])), False)
        first = (START, (("won", 2), ("drawn",)), ([("lost", 1), ("drawn",)], drawn))
        self.assertIs(accepts_record(ring(), ([first, second], [(0, "silent")])), True)

    def test_where_it_goes_on(self):
        """With a step at another next position of different answers."""
        answers = ([("won", 3), ("won", 1)], [("drawn",), ("drawn",)])
        claims = (("lost", 4), ("drawn",))
        for later, told, expected in ((FIRST, (("won", 3), ("drawn",)), True),
                                      (SECOND, (("won", 1), ("drawn",)), False),
                                      (SECOND, (("won", 3), ("drawn",)), False)):
            second = (later, told, ([None] * len(next_positions(ring(), later)), [None] * 2))
            record = ([(START, claims, answers), second], [(0, "silent"), (1, "silent")])
            self.assertIs(accepts_record(ring(), record), expected)

    def test_claims_that_do_not_differ_at_a_later_step(self):
        """Behind a step that does not lead there, and though nobody is caught there."""
        drawn = [("drawn",), ("drawn",)]
        first = (START, (("won", 2), ("drawn",)), ([("lost", 1), ("drawn",)], drawn))
        last = (FIRST, (("lost", 1), ("drawn",)), ([None, None], drawn))
        self.assertIs(accepts_record(ring(), ([first, last], [(0, "silent")])), True)
        for claim, told in ((("drawn",), drawn), (("lost", 4), [("won", 3), ("won", 3)]),
                            (("won", 3), [("lost", 2), ("lost", 2)])):
            for position in (START, FIRST, SECOND):
                same = (position, (claim, claim), (told, told))
                for steps in ([first, same, last], [first, same], [same, last], [same, first, last], [last, same, last],
                              [first, last, same, last], [same, same], [first, same, same, last]):
                    self.assertIs(accepts_record(ring(), (steps, [(0, "silent")])), False)
                    self.assertIs(accepts_record(ring(), (steps, [(0, "wrong"), (1, "wrong")])), False)

    def test_lists_of_no_or_too_many_steps(self):
        record = settle_claims(ring(), START, Worker("a", {}), Worker("b", {}), (None, ("drawn",)))
        self.assertIs(accepts_record(ring(), record), True)
        self.assertIs(accepts_record(ring(), ([], [])), False)
        self.assertIs(accepts_record(ring(), ([], record[1])), False)
        self.assertIs(accepts_record(ring(), (record[0], [])), False)
        self.assertIs(accepts_record(ring(), (record[0] * 2, record[1])), False)
        self.assertIs(accepts_record(ring(), (record[0], record[1][::-1])), False)

    def test_a_record_of_another_game(self):
        record = settle_claims(ring(), START, Worker("a", {}), Worker("b", {}), (("won", 1), ("drawn",)))
        self.assertIs(accepts_record(ring(), record), True)
        for clauses in ([(("few", 2), "won")], [(("few", 2), "drawn")]):
            self.assertIs(accepts_record(ring(clauses), record), False)


if __name__ == "__main__":
    unittest.main()
