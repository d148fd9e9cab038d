"""Promises [101] and [102]: remaining values."""

import random
import unittest

from commonground.workers.remaining import Remaining
from tests import naive
from tests.makers import NEVER, clause, made, random_fact, row

BOUNDS = [(-1, 4), (0, 3), (2, 2), (-2, 2)]


class RemainingTest(unittest.TestCase):
    def setUp(self):
        self.remaining = Remaining(made(BOUNDS))

    def left(self):
        return [self.remaining.left(v) for v in range(len(BOUNDS))]

    def check(self, fact, returned, *changed):
        """Apply the fact, and check what is returned and what remains, changed being pairs of unknowns and values."""
        expected = self.left()
        for v, worths in changed:
            expected[v] = worths
        self.assertEqual(self.remaining.apply(fact), returned)
        self.assertEqual(self.left(), expected)


class FixTest(RemainingTest):
    def test_at_first(self):
        self.assertEqual(self.left(), [[-1, 0, 1, 2, 3, 4], [0, 1, 2, 3], [2], [-2, -1, 0, 1, 2]])
        self.assertIs(self.remaining.single(), False)

    def test_the_greatest_bounds(self):
        remaining = Remaining(made([(-1000, 1000)]))
        self.assertEqual(remaining.left(0), list(range(-1000, 1001)))
        self.assertEqual(remaining.apply(clause((0, ">=", 1000))), [0])
        self.assertEqual(remaining.left(0), [1000])

    def test_fixed(self):
        for v, a in ((0, 4), (1, 0), (2, 2)):
            self.assertIsNone(self.remaining.fix(v, a))
            self.assertEqual(self.remaining.left(v), [a])
            self.assertIs(self.remaining.single(), False)
        self.assertIsNone(self.remaining.fix(3, 1))
        self.assertIs(self.remaining.single(), True)
        self.assertEqual(self.left(), [[4], [0], [2], [1]])

    def test_single_at_once(self):
        self.assertIs(Remaining(made([(3, 3), (-1000, -1000)])).single(), True)
        self.assertIs(Remaining(made([(3, 3), (-1000, -999)])).single(), False)

    def test_returned_lists_are_new(self):
        self.remaining.left(0).clear()
        self.remaining.left(1).append(9)
        self.assertEqual(self.left()[:2], [[-1, 0, 1, 2, 3, 4], [0, 1, 2, 3]])
        lost = self.remaining.apply(clause((0, "<=", 2)))
        lost.append(7)
        self.assertEqual(self.remaining.apply(clause((0, "<=", 2))), [])

    def test_no_connection_with_the_model(self):
        model = made(BOUNDS)
        remaining = Remaining(model)
        model.move(0, 0, 0)
        model.move(2, -5, 5)
        self.assertEqual((remaining.left(0), remaining.left(2)), ([-1, 0, 1, 2, 3, 4], [2]))
        remaining.fix(0, 3)
        self.assertEqual((model.low(0), model.high(0)), (0, 0))


class ClauseTest(RemainingTest):
    def test_no_live_literal(self):
        self.check(NEVER, None)
        self.check(clause((0, ">=", 5)), None)
        self.check(clause((0, "=", 9), (1, "<=", -1), (2, "!=", 2), (3, "=", 10 ** 20)), None)
        self.remaining.apply(clause((0, "!=", 2)))
        self.check(clause((0, "=", 2)), None)

    def test_one_live_literal(self):
        self.check(clause((0, "!=", 1)), [0], (0, [-1, 0, 2, 3, 4]))
        self.check(clause((1, "=", 7), (0, "<=", 3)), [0], (0, [-1, 0, 2, 3]))
        self.check(clause((0, ">=", 0), (2, ">=", 3)), [0], (0, [0, 2, 3]))
        self.check(clause((0, ">=", 0)), [])
        self.check(clause((0, "=", 1), (3, "=", -2)), [3], (3, [-2]))
        self.check(clause((2, "=", 2), (3, "=", 2)), [])

    def test_several_live_literals(self):
        self.check(clause((0, "=", 1), (1, "=", 1)), [])
        self.check(clause((0, "=", 1), (0, "=", 2)), [])
        # Two equal ones count as two.
        self.check(clause((0, "=", 1), (0, "=", 1)), [])
        self.check(clause((0, "=", 1), (0, "=", 9), (0, "=", 1)), [])


class RowTest(RemainingTest):
    def test_conflicts(self):
        self.check(row(-1), None)
        self.check(row(-2, (0, 1)), None)
        self.check(row(-2, (0, 1), (1, 1)), None)
        self.check(row(-5, (0, -1)), None)
        self.check(row(-14, (0, -2), (1, -1), (3, 1)), None)

    def test_nothing_removed(self):
        self.check(row(0), [])
        self.check(row(7, (0, 1), (1, 1)), [])
        self.check(row(10 ** 30, (0, 3), (3, -5)), [])

    def test_several_unknowns(self):
        self.check(row(1, (0, 1), (1, 1)), [0, 1], (0, [-1, 0, 1]), (1, [0, 1, 2]))
        self.check(row(-4, (1, -2), (3, 1)), [1, 3], (1, [1, 2]), (3, [-2, -1, 0]))
        self.check(row(-5, (1, -2), (3, 1)), [1, 3], (1, [2]), (3, [-2, -1]))

    def test_values_in_between(self):
        self.remaining.apply(clause((0, "!=", 0)))
        self.remaining.apply(clause((0, "!=", 2)))
        self.check(row(4, (0, 2)), [0], (0, [-1, 1]))
        self.check(row(0, (0, -1)), [0], (0, [1]))

    def test_just_met(self):
        self.check(row(-1, (0, 1), (1, 1)), [0, 1], (0, [-1]), (1, [0]))
        self.check(row(-1, (0, 1), (1, 1)), [])


class RandomTest(unittest.TestCase):
    def test_random_facts(self):
        rng = random.Random(101)
        conflicts = removed = 0
        for _ in range(400):
            bounds = [(-1, 3), (0, 3), (-2, 1)]
            remaining = Remaining(made(bounds))
            values = {v: list(range(low, high + 1)) for v, (low, high) in enumerate(bounds)}
            for _ in range(5):
                fact = random_fact(rng, [0, 1, 2])
                before = {v: list(values[v]) for v in values}
                met = self.applied(values, fact)
                lost = remaining.apply(fact)
                if met:
                    self.assertEqual(lost, [v for v in values if values[v] != before[v]])
                    removed += bool(lost)
                else:
                    self.assertIsNone(lost)
                    values = before
                    conflicts += 1
                self.assertEqual([remaining.left(v) for v in values], list(values.values()))
                self.assertIs(remaining.single(), all(len(left) == 1 for left in values.values()))
        self.assertGreater(min(conflicts, removed), 200)

    def applied(self, values, fact):
        """Remove what the fact excludes; return False if it is a conflict."""
        if fact[0] == "row":
            return naive.row_applied(values, fact[1], fact[2])
        live = [(v, r, a) for v, r, a in fact[1] if any(naive.SIGNS[r](x, a) for x in values[v])]
        if len(live) == 1:
            v, r, a = live[0]
            values[v] = [x for x in values[v] if naive.SIGNS[r](x, a)]
        return bool(live)


if __name__ == "__main__":
    unittest.main()
