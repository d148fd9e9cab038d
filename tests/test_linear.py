"""Promises [70] and [72]: the linear worker."""

import math
import random
import unittest

from commonground.errors import Stopped, TooLarge
from commonground.facts.fact import is_contradiction
from commonground.facts.judge import accepts
from commonground.ledger.bounding import bound_of, contradiction_in
from commonground.ledger.certificate import cut
from commonground.ledger.ledger import Ledger
from commonground.ledger.pen import Pen
from commonground.ledger.standing import Standing
from commonground.workers.linear import Linear
from commonground.workers.relaxation import relaxation
from tests import naive
from tests.makers import NEVER, clause, made, plain_solutions, random_edit, random_model, random_steps, row
from tests.programs import plain_optimum

RULES = {"bound", "given", "sum", "divide"}
HALVES = ("row", ((0, 2), (1, 2)), "<=", 7)


def turn(ledger, room=None, worker=None):
    """Return what one turn returns."""
    return (worker or Linear()).turn(Pen(ledger, Standing(ledger), room))


def ledger_of(bounds, goal, **bodies):
    model = made(bounds, **bodies)
    model.aim(goal)
    return Ledger(model)


class LinearTest(unittest.TestCase):
    def check_written(self, ledger, before):
        for i in range(before, ledger.many()):
            self.assertTrue(ledger.awake(i) and ledger.is_open(i))
            self.assertIn(ledger.step(i)[1], RULES)
            self.assertEqual(ledger.find(ledger.fact(i)), i)

    def check_turn(self, ledger, fact):
        """Take a turn after which the fact stands, None being any contradiction."""
        before = ledger.many()
        returned = turn(ledger)
        self.assertIs(returned, ledger.many() > before)
        self.check_written(ledger, before)
        if fact is None:
            self.assertIsNotNone(contradiction_in(ledger))
        else:
            self.assertIsNotNone(ledger.find(fact))
        return returned


class OptimumTest(LinearTest):
    def test_both_senses(self):
        terms = ((0, 1), (1, 1))
        ledger = ledger_of([(0, 4), (0, 4)], ("max", terms, 10), r=HALVES)
        self.assertIs(self.check_turn(ledger, ("row", terms, 3)), True)
        self.assertEqual(bound_of(ledger), 13)
        ledger = ledger_of([(0, 4), (0, 4)], ("min", terms, 10), r=("row", ((0, 2), (1, 2)), ">=", 7))
        self.assertIs(self.check_turn(ledger, ("row", ((0, -1), (1, -1)), -4)), True)
        self.assertEqual(bound_of(ledger), 14)

    def test_the_least_rhs_and_a_certificate(self):
        model = made([(0, 5), (0, 5)], r=("row", ((0, 3), (1, 5)), "<=", 17), s=("row", ((0, 4), (1, 1)), "<=", 10))
        model.aim(("max", ((0, 2), (1, 3)), 0))
        ledger = Ledger(model)
        turn(ledger)
        i = ledger.find(row(10, (0, 2), (1, 3)))
        self.assertIs(accepts(model, ("best", (2, 2), cut(ledger, i))), True)

    def test_a_goal_without_terms(self):
        for sense in ("max", "min"):
            ledger = ledger_of([(0, 4)], (sense, (), 3))
            self.assertIs(self.check_turn(ledger, row(0)), True)
            self.assertEqual(list(ledger), [(row(0), "sum", ())])
            self.assertEqual(bound_of(ledger), 3)
            self.assertIs(turn(ledger), False)

    def test_bounds_only(self):
        ledger = ledger_of([(0, 4), (-3, 5)], ("max", ((0, 2), (1, -3)), 0))
        self.assertIs(self.check_turn(ledger, row(17, (0, 2), (1, -3))), True)
        self.assertEqual([step[1] for step in ledger], ["bound", "bound", "sum"])

    def test_a_bound_may_be_all(self):
        ledger = ledger_of([(0, 4)], ("max", ((0, 1),), 0))
        self.assertIs(self.check_turn(ledger, row(4, (0, 1))), True)
        self.assertEqual(list(ledger), [(row(4, (0, 1)), "bound", 0)])

    def test_entries_of_others_are_used(self):
        ledger = ledger_of([(0, 4), (0, 4)], ("max", ((0, 1), (1, 1)), 0), e=("element", 0, (1, 1), 1))
        ledger.offer((clause((0, "<=", 1)), "look", "e", ()))
        ledger.offer((clause((1, "=", 1)), "look", "e", ()))
        ledger.offer((row(1, (1, 1)), "look", "e", ()))
        self.assertIs(self.check_turn(ledger, row(2, (0, 1), (1, 1))), True)
        self.assertEqual(ledger.step(3), (row(2, (0, 1), (1, 1)), "sum", ((0, 1), (2, 1))))

    def test_a_clause_that_counts_as_the_row_is_not_the_row(self):
        ledger = ledger_of([(0, 4)], ("max", ((0, 1),), 0), e=("element", 0, (0, 0), 0))
        ledger.offer((clause((0, "<=", 0)), "look", "e", ()))
        self.assertIs(self.check_turn(ledger, row(0, (0, 1))), True)

    def test_a_fact_that_stands_already(self):
        terms = ((0, 1), (1, 1))
        ledger = ledger_of([(0, 4), (0, 4)], ("max", terms, 0), r=HALVES)
        self.assertIs(turn(ledger), True)
        many = ledger.many()
        for room in (None, 0, 1):
            self.assertIs(turn(ledger, room), False)
        self.assertEqual(ledger.many(), many)
        # One that is stronger than any optimum tells stands, but is another fact.
        ledger = ledger_of([(0, 4), (0, 4)], ("max", terms, 0), t=("row", terms, "<=", 2), r=HALVES)
        ledger.offer((("row", terms, 2), "given", "t"))
        self.assertIs(turn(ledger, 0), False)

    def test_an_entry_that_sleeps_or_is_not_open_does_not_stand(self):
        terms = ((0, 1), (1, 1))
        ledger = ledger_of([(0, 4), (0, 4)], ("max", terms, 0), r=HALVES)
        ledger.offer((("row", terms, 3), "suppose"))
        self.assertIs(self.check_turn(ledger, ("row", terms, 3)), True)
        ledger.withdraw("r")
        self.assertIs(self.check_turn(ledger, ("row", terms, 8)), True)
        ledger.put("r", HALVES)
        self.assertIs(turn(ledger, 0), False)

    def test_great_coefficients(self):
        terms = ((0, 999999), (1, -1000000))
        ledger = ledger_of([(-1000, 1000), (-1000, 1000)], ("max", terms, 0),
                           r=("row", ((0, 7), (1, -3)), "<=", 1000000000 // 7), s=("row", ((0, 3), (1, 7)), ">=", 11))
        worth, _ = plain_optimum(relaxation(ledger))
        self.check_turn(ledger, ("row", terms, math.floor(worth)))


class NoOptimumTest(LinearTest):
    BODIES = {"less": ("row", ((0, 1), (1, 1)), "<=", 5), "more": ("row", ((0, 1), (1, 1)), ">=", 6)}

    def test_a_contradiction(self):
        for sense in ("max", "min"):
            ledger = ledger_of([(0, 4), (0, 4)], (sense, ((0, 1),), 0), **self.BODIES)
            self.assertIs(self.check_turn(ledger, None), True)
            steps = cut(ledger, contradiction_in(ledger))
            self.assertIs(accepts(ledger.model, ("none", steps)), True)
            for room in (None, 0):
                self.assertIs(turn(ledger, room), False)

    def test_a_given_contradiction(self):
        ledger = ledger_of([(0, 4)], ("max", ((0, 1),), 0), n=("row", (), ">=", 1))
        self.assertIs(self.check_turn(ledger, None), True)
        self.assertEqual(list(ledger), [(row(-1), "given", "n")])

    def test_a_contradiction_that_stands_already(self):
        ledger = ledger_of([(0, 4), (0, 4)], ("max", ((0, 1),), 0), e=("element", 0, (5,), 1), **self.BODIES)
        ledger.offer((NEVER, "look", "e", ()))
        self.assertIs(turn(ledger, 0), False)
        self.assertEqual(ledger.many(), 1)

    def test_a_contradiction_that_is_no_row_and_a_relaxation_with_an_optimum(self):
        ledger = ledger_of([(0, 4), (0, 4)], ("max", ((0, 1),), 0), e=("element", 0, (5,), 1))
        ledger.offer((NEVER, "look", "e", ()))
        self.assertIs(self.check_turn(ledger, row(4, (0, 1))), True)

    def test_a_contradiction_that_is_not_open(self):
        ledger = ledger_of([(0, 4), (0, 4)], ("max", ((0, 1),), 0), **self.BODIES)
        ledger.offer((row(-1), "suppose"))
        self.assertIs(self.check_turn(ledger, None), True)


class RoomTest(LinearTest):
    def full(self):
        return ledger_of([(0, 4), (0, 1)], ("max", ((0, 3), (1, 2)), 0), r=("row", ((0, 4), (1, 2)), "<=", 9))

    def test_stopped_and_what_was_written_stays(self):
        whole = self.full()
        self.assertIs(turn(whole), True)
        self.assertEqual([step[1] for step in whole], ["given", "bound", "sum", "divide"])
        for room in range(7):
            ledger = self.full()
            if room < whole.many():
                self.assertRaises(Stopped, turn, ledger, room)
                self.assertEqual(list(ledger), list(whole)[:room])
            else:
                self.assertIs(turn(ledger, room), True)
                self.assertEqual(list(ledger), list(whole))

    def test_no_room_for_a_contradiction(self):
        ledger = ledger_of([(0, 4), (0, 4)], ("max", ((0, 1),), 0), **NoOptimumTest.BODIES)
        self.assertRaises(Stopped, turn, ledger, 2)
        self.assertEqual(ledger.many(), 2)
        self.assertIs(turn(ledger, 1), True)

    def test_one_entry_in_each_turn_is_enough(self):
        ledger = self.full()
        worker = Linear()
        for many in (1, 2, 3):
            self.assertRaises(Stopped, turn, ledger, 1, worker)
            self.assertEqual(ledger.many(), many)
        self.assertIs(turn(ledger, 1, worker), True)
        self.assertIsNotNone(ledger.find(row(7, (0, 3), (1, 2))))
        self.assertIs(turn(ledger, 0, worker), False)

    def test_what_the_pen_wrote_before_does_not_count(self):
        ledger = ledger_of([(0, 4)], ("max", ((0, 1),), 0))
        pen = Pen(ledger, Standing(ledger), 2)
        pen.offer((row(4, (0, 1)), "bound", 0))
        self.assertIs(Linear().turn(pen), False)

    def test_a_full_ledger(self):
        ledger = self.full()
        for _ in range(19999):
            ledger.offer((row(1, (1, 1)), "bound", 1))
        self.assertRaises(TooLarge, turn, ledger)
        self.assertEqual(ledger.many(), 20000)
        self.assertEqual(ledger.step(19999)[1], "given")
        self.assertRaises(TooLarge, turn, ledger)


class RandomTest(LinearTest):
    def test_turns_between_edits(self):
        rng = random.Random(70)
        kinds = {"none": 0, "best": 0}
        worker = Linear()
        for _ in range(80):
            model = random_model(rng, "abc")
            ledger = Ledger(model)
            standing = Standing(ledger)
            for step in random_steps(rng, model, 20):
                ledger.offer(step)
            for _ in range(4):
                best = plain_optimum(relaxation(ledger))
                before = ledger.many()
                returned = worker.turn(Pen(ledger, standing))
                self.assertIs(returned, ledger.many() > before)
                self.check_written(ledger, before)
                self.check_end(ledger, best)
                kinds["best" if best else "none"] += 1
                self.assertIs(worker.turn(Pen(ledger, standing, 0)), False)
                random_edit(rng, ledger, "abcd")
            self.assertIsNone(standing.best())
        self.assertGreater(min(kinds.values()), 30)

    def check_end(self, ledger, best):
        solutions = plain_solutions(ledger.model)
        if best is None:
            self.assertTrue(is_contradiction(ledger.fact(contradiction_in(ledger))))
            self.assertEqual(solutions, [])
            return
        fact = ("row", relaxation(ledger)[3], math.floor(best[0]))
        self.assertIsNotNone(ledger.find(fact))
        self.assertTrue(all(naive.holds(fact, point) for point in solutions))


if __name__ == "__main__":
    unittest.main()
