"""Promises [71] and [72]: the cutting worker."""

import random
import unittest

from commonground.errors import Stopped, TooLarge
from commonground.exact.simplex import optimum
from commonground.facts.fact import as_row
from commonground.ledger.ledger import Ledger
from commonground.ledger.pen import Pen
from commonground.ledger.standing import Standing
from commonground.workers.cuts import Cuts
from commonground.workers.linear import Linear
from commonground.workers.relaxation import relaxation
from tests import naive
from tests.makers import made, plain_solutions, random_edit, random_linear_model, random_steps, row
from tests.programs import as_fractions, total

RULES = {"bound", "given", "sum", "divide"}
TWICE = ((0, 2), (1, 2))


def turn(ledger, room=None, worker=None):
    """Return what one turn returns."""
    return (worker or Cuts()).turn(Pen(ledger, Standing(ledger), room))


def ledger_of(bounds, goal, **bodies):
    model = made(bounds, **bodies)
    model.aim(goal)
    return Ledger(model)


def best_position(ledger):
    """Return the best position of the relaxation, or None."""
    told = optimum(*relaxation(ledger))
    return as_fractions(told[2]) if told[0] == "best" else None


def violated(ledger, position):
    """Return the rows of awake open entries that the position violates."""
    rows = [as_row(ledger.fact(i)) for i in ledger.open_entries()]
    return [fact for fact in rows if fact and total(fact[1], position) > fact[2]]


class CutsTest(unittest.TestCase):
    def check_turn(self, ledger, room=None):
        """Take a turn and check all that is promised of it."""
        position = best_position(ledger)
        before = ledger.many()
        cutting = position is not None and any(a.denominator != 1 for a in position)
        self.assertIs(turn(ledger, room), cutting)
        self.assertEqual(ledger.many() > before, cutting)
        for i in range(before, ledger.many()):
            self.assertTrue(ledger.awake(i) and ledger.is_open(i))
            self.assertIn(ledger.step(i)[1], RULES)
            self.assertEqual(ledger.find(ledger.fact(i)), i)
        if cutting:
            facts = violated(ledger, position)
            self.assertTrue(facts)
            for point in plain_solutions(ledger.model):
                self.assertTrue(all(naive.holds(fact, point) for fact in facts))
        return cutting


class TurnTest(CutsTest):
    def test_no_optimum(self):
        ledger = ledger_of([(0, 4), (0, 4)], ("max", ((0, 1),), 0), r=("row", ((0, 1), (1, 1)), ">=", 9))
        for room in (None, 0):
            self.assertIs(self.check_turn(ledger, room), False)

    def test_a_point(self):
        for bodies in ({}, {"r": ("row", TWICE, "<=", 6)}, {"r": ("row", ((0, 1), (1, 1)), "=", 3)}):
            for sense in ("max", "min"):
                ledger = ledger_of([(0, 4), (0, 4)], (sense, ((0, 1), (1, 2)), 5), **bodies)
                for room in (None, 0):
                    self.assertIs(self.check_turn(ledger, room), False)
                self.assertEqual(ledger.many(), 0)

    def test_no_point(self):
        ledger = ledger_of([(0, 4), (0, 4)], ("max", ((0, 1), (1, 1)), 0), r=("row", TWICE, "<=", 7))
        self.assertIs(self.check_turn(ledger), True)
        self.assertIsNotNone(ledger.find(row(3, (0, 1), (1, 1))))
        self.assertIs(self.check_turn(ledger, 0), False)

    def test_min(self):
        ledger = ledger_of([(0, 4), (0, 4)], ("min", ((0, 1), (1, 1)), 0), r=("row", TWICE, ">=", 7))
        self.assertIs(self.check_turn(ledger), True)
        self.assertIsNotNone(ledger.find(row(-4, (0, -1), (1, -1))))

    def test_an_integer_value_at_no_point(self):
        ledger = ledger_of([(0, 4), (0, 4)], ("max", ((0, 2),), 0),
                           r=("row", ((0, 2), (1, -2)), "<=", 1), s=("row", TWICE, "<=", 3))
        self.assertIs(self.check_turn(ledger), True)

    def test_no_point_where_the_aim_has_no_terms(self):
        ledger = ledger_of([(0, 4), (0, 4)], ("max", (), 0), r=("row", TWICE, "=", 7))
        while self.check_turn(ledger):
            pass
        self.assertIsNone(best_position(ledger))

    def test_the_standing_is_left_alone(self):
        ledger = ledger_of([(0, 4), (0, 4)], ("max", ((0, 1), (1, 1)), 0), r=("row", TWICE, "<=", 7))
        standing = Standing(ledger)
        Cuts().turn(Pen(ledger, standing))
        self.assertIsNone(standing.best())


class RoomTest(CutsTest):
    def fresh(self):
        return ledger_of([(0, 4), (0, 9)], ("max", ((0, 5), (1, 3)), 0),
                         r=("row", ((0, 4), (1, 3)), "<=", 19), s=("row", ((0, 5), (1, 2)), "<=", 17))

    def test_every_room(self):
        whole = self.fresh()
        self.assertIs(self.check_turn(whole), True)
        many = whole.many()
        self.assertGreaterEqual(many, 4)
        for room in range(many + 3):
            ledger = self.fresh()
            if room < many:
                self.assertRaises(Stopped, turn, ledger, room)
                self.assertEqual(list(ledger), list(whole)[:room])
            else:
                self.assertIs(turn(ledger, room), True)
                self.assertEqual(list(ledger), list(whole))

    def test_one_entry_in_each_turn_is_enough(self):
        ledger = self.fresh()
        worker = Cuts()
        for _ in range(200):
            try:
                if not turn(ledger, 1, worker):
                    break
            except Stopped:
                pass
        self.assertIs(turn(ledger, 0, worker), False)
        self.assertTrue(all(a.denominator == 1 for a in best_position(ledger)))

    def test_a_full_ledger(self):
        ledger = self.fresh()
        for _ in range(19999):
            ledger.offer((row(9, (1, 1)), "bound", 1))
        self.assertRaises(TooLarge, turn, ledger)
        self.assertEqual(ledger.many(), 20000)


class SeveralTurnsTest(CutsTest):
    def test_until_the_best_position_is_a_point(self):
        rng = random.Random(71)
        turns = 0
        for _ in range(60):
            ledger = Ledger(random_linear_model(rng))
            while self.check_turn(ledger):
                turns += 1
            position = best_position(ledger)
            self.assertTrue(position is None or all(a.denominator == 1 for a in position))
        self.assertGreater(turns, 20)

    def test_with_turns_of_the_linear_worker_between(self):
        rng = random.Random(710)
        cut = 0
        for _ in range(60):
            model = random_linear_model(rng)
            ledger = Ledger(model)
            for step in random_steps(rng, model, 15):
                ledger.offer(step)
            before = None
            for _ in range(6):
                Linear().turn(Pen(ledger, Standing(ledger)))
                position = best_position(ledger)
                best = position and (total(relaxation(ledger)[3], position), position)
                self.assertTrue(before is None or best is None or best <= before)
                before = best
                cut += self.check_turn(ledger)
            random_edit(rng, ledger, "abcd")
            self.check_turn(ledger)
        self.assertGreater(cut, 20)


if __name__ == "__main__":
    unittest.main()
