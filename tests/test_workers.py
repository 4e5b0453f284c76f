"""Promises 45 and 46: what workers tell, and which claims are sound."""

import copy
import unittest

from skewer.workers import Worker, is_same, is_sound, number_of

HERE, THERE, ELSEWHERE = (0, (1, 0, 2)), (1, (0, 1, 2)), (0, (0, 0, 0))


class Odd:
    """An object of no kind that a claim can be."""


SOUND = [(("won", 0), 0), (("lost", 0), 0), (("won", 1), 1), (("lost", 7), 7), (("won", 10 ** 30), 10 ** 30),
         (("drawn",), None)]
UNSOUND = [
    None, 0, 1, -1, True, False, 2.5, "", "won", "drawn", "won 1", b"drawn", [], ["drawn"], ["won", 1], {}, {"won": 1},
    {"drawn"}, Odd(), Odd, len,
    (), (None,), ((),), (("drawn",),), ("won",), ("lost",), ("even",), ("Drawn",), ("",), (0,), (["drawn"],),
    ("won", -1), ("lost", -1), ("won", -10 ** 30), ("won", None), ("won", "1"), ("won", 1.0), ("lost", True),
    ("won", False), ("won", (1,)), ("won", [1]), ("drawn", 0), ("drawn", 1), ("drawn", None), ("even", 1), ("WON", 1),
    ("won ", 1), ("", 1), (1, "won"), (None, 1), (["won"], 1), (("won",), 1), ("won", 1, 2), ("won", 1, None),
    ("drawn", 0, 0), ("lost", 0, "over"), ("won", "lost"), ("drawn", "drawn"), (("won", 1), ("lost", 0)),
]


class ClaimTest(unittest.TestCase):
    def test_sound(self):
        for claim, number in SOUND:
            with self.subTest(claim=claim):
                self.assertIs(is_sound(claim), True)
                self.assertEqual(number_of(claim), number)

    def test_not_sound(self):
        for claim in UNSOUND:
            with self.subTest(claim=claim):
                self.assertIs(is_sound(claim), False)
                self.assertIsNone(number_of(claim))

    def test_same(self):
        claims = [claim for claim, _ in SOUND] + UNSOUND
        for claim in claims:
            self.assertIs(is_same(claim, claim), True)
        for claim in [("won", 0), ("won", 1), ("lost", 0), ("lost", 1), ("drawn",)]:
            for other in claims:
                same = type(other) is tuple and [type(part) for part in claim] == [type(part) for part in other]
                self.assertIs(is_same(claim, other), same and claim == other, (claim, other))

    def test_true_is_no_number(self):
        self.assertIs(is_same(("won", 1), ("won", True)), False)
        self.assertIs(is_same(("lost", False), ("lost", 0)), False)


class WorkerTest(unittest.TestCase):
    def test_name(self):
        self.assertEqual(Worker("ann", {}).name, "ann")
        self.assertEqual(Worker(name="", answers={}, most=3).name, "")

    def test_answers(self):
        worker = Worker("ann", {HERE: ("won", 1), THERE: ("lost", 0)})
        self.assertEqual([worker.ask(HERE), worker.ask(THERE), worker.ask(HERE)], [("won", 1), ("lost", 0), ("won", 1)])
        self.assertEqual(worker.asked(), [HERE, THERE, HERE])

    def test_no_answer(self):
        worker = Worker("ann", {HERE: ("won", 1), THERE: None})
        self.assertEqual([worker.ask(ELSEWHERE), worker.ask(THERE), worker.ask(HERE)], [None, None, ("won", 1)])
        self.assertEqual(worker.asked(), [ELSEWHERE, THERE, HERE])

    def test_nobody_has_asked(self):
        self.assertEqual(Worker("ann", {HERE: ("won", 1)}).asked(), [])

    def test_it_may_say_anything(self):
        for claim in [claim for claim, _ in SOUND] + UNSOUND:
            worker = Worker("bob", {HERE: claim})
            self.assertEqual(worker.ask(HERE), claim)
            self.assertIs(type(worker.ask(HERE)), type(claim))
            self.assertEqual(worker.asked(), [HERE, HERE])

    def test_most(self):
        """Questions count, whether there is an answer or not, and those behind the last one that is answered, too."""
        positions = [HERE, ELSEWHERE, THERE, HERE, HERE]
        answers = {HERE: ("won", 1), THERE: ("drawn",)}
        told = [("won", 1), None, ("drawn",), ("won", 1), ("won", 1)]
        for most in (None, 0, 1, 2, 3, 4, 5, 6, 100):
            worker = Worker("ann", answers, most=most)
            answered = 5 if most is None else most
            expected = [told[at] if at < answered else None for at in range(5)]
            self.assertEqual([worker.ask(position) for position in positions], expected, most)
            self.assertEqual(worker.asked(), positions)

    def test_most_is_told_by_keyword(self):
        with self.assertRaises(TypeError):
            Worker("ann", {}, 3)

    def test_the_dict_that_was_passed(self):
        answers = {HERE: ("won", 1), THERE: ["lost", [0]]}
        worker = Worker("ann", answers)
        answers[HERE] = ("drawn",)
        answers[ELSEWHERE] = ("drawn",)
        answers[THERE][1].append(5)
        del answers[THERE]
        self.assertEqual([worker.ask(one) for one in (HERE, ELSEWHERE, THERE)], [("won", 1), None, ["lost", [0]]])
        worker.ask(THERE)[1].append(5)
        self.assertEqual(worker.ask(THERE), ["lost", [0]])

    def test_nothing_is_modified(self):
        answers = {HERE: ("won", 1), THERE: ["lost"]}
        told = copy.deepcopy(answers)
        worker = Worker("ann", answers, most=1)
        for position in (HERE, THERE, ELSEWHERE):
            worker.ask(position)
        self.assertEqual(answers, told)

    def test_the_list_of_questions_is_new(self):
        worker = Worker("ann", {HERE: ("won", 1)}, most=2)
        worker.ask(HERE)
        before = worker.asked()
        before.extend([THERE, THERE])
        self.assertEqual(worker.asked(), [HERE])
        self.assertEqual(worker.ask(HERE), ("won", 1))
        self.assertEqual((before, worker.asked()), ([HERE, THERE, THERE], [HERE, HERE]))
        worker.asked().clear()
        self.assertIsNone(worker.ask(HERE))

    def test_workers_do_not_share_what_they_remember(self):
        answers = {HERE: ("won", 1)}
        first, second = Worker("ann", answers, most=1), Worker("bob", answers, most=1)
        first.ask(HERE)
        self.assertEqual((first.asked(), second.asked()), ([HERE], []))
        self.assertEqual(second.ask(HERE), ("won", 1))


if __name__ == "__main__":
    unittest.main()
