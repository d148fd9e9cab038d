"""Promise [36]: the rule unit."""

import itertools
import random
import unittest

from commonground.facts.rules import follows
from tests import naive
from tests.makers import NEVER, clause, made, random_fact, row, supposed

HUGE = 10 ** 40


class UnitTest(unittest.TestCase):
    def setUp(self):
        self.model = made([(0, 5), (0, 5), (-3, 3)])

    def check(self, expected, fact, *hints):
        """Check whether unit with these hints follows, and that the plain way tells the same."""
        numbers = tuple(range(len(hints)))
        told = follows(self.model, supposed(*hints), (fact, "unit", numbers))
        self.assertIs(told, expected, (fact, hints))
        self.assertEqual(naive.unit(self.model, list(hints), fact, numbers), expected, (fact, hints))


class NoHintsTest(UnitTest):
    def test_clauses(self):
        self.check(True, clause((0, "<=", 5)))
        self.check(False, clause((0, "<=", 4)))
        self.check(True, clause((0, "<=", 2), (1, "=", 1), (0, ">=", 3)))
        self.check(False, clause((0, "<=", 2), (1, "=", 1), (0, ">=", 4)))
        self.check(True, clause((0, "!=", 3), (0, "=", 3)))
        self.check(True, clause((0, "!=", 6)))
        self.check(False, clause((0, "!=", 5)))
        self.check(False, NEVER)

    def test_rows(self):
        self.check(True, row(5, (0, 1)))
        self.check(False, row(4, (0, 1)))
        self.check(True, row(16, (0, 2), (2, -2)))
        self.check(False, row(15, (0, 2), (2, -2)))
        self.check(True, row(0))
        self.check(False, row(-1))

    def test_numbers_of_any_size(self):
        self.check(True, row(5 * HUGE, (0, HUGE)))
        self.check(False, row(5 * HUGE - 1, (0, HUGE)))
        self.check(True, clause((0, "<=", HUGE)))
        self.check(True, clause((0, "!=", -HUGE)))
        self.check(False, clause((0, ">=", HUGE), (1, "=", HUGE)))


class HintsTest(UnitTest):
    def test_conflict_by_clause(self):
        self.check(True, clause((0, "=", 1)), clause((0, "=", 1)))
        self.check(True, clause((0, "=", 1), (1, "=", 2)), clause((1, "=", 2), (0, "=", 1)))
        self.check(True, clause((0, "<=", 3)), clause((0, "<=", 2), (0, "=", 3)))
        self.check(False, clause((0, "<=", 3)), clause((0, "<=", 2), (0, "=", 4)))
        self.check(True, clause((0, "<=", 3)), NEVER)

    def test_conflict_by_row(self):
        self.check(True, clause((0, "<=", 2), (1, "<=", 2)), row(5, (0, 1), (1, 1)))
        self.check(False, clause((0, "<=", 2), (1, "<=", 2)), row(6, (0, 1), (1, 1)))
        self.check(True, clause((0, "<=", 2), (2, ">=", -1)), row(4, (0, 1), (2, -1)))
        self.check(False, clause((0, "<=", 2), (2, ">=", -1)), row(5, (0, 1), (2, -1)))
        self.check(True, clause((0, "=", 77)), row(-1))
        self.check(False, clause((0, "=", 77)), row(0))

    def test_a_row_is_denied_as_a_row(self):
        # Where the sum is above 8, both are at least 4.
        self.check(True, row(8, (0, 1), (1, 1)), clause((0, "<=", 3), (1, "<=", 3)))
        self.check(False, row(8, (0, 1), (1, 1)), clause((0, "<=", 3), (1, "<=", 4)))
        self.check(True, row(8, (0, 1), (1, 1)), clause((0, "<=", 3), (1, "!=", 5)), clause((1, "!=", 4)))
        self.check(False, row(8, (0, 1), (1, 1)), clause((0, "<=", 3), (1, "!=", 5)), clause((1, "<=", 4)))
        self.check(True, row(8, (0, 1), (1, 1)), row(8, (0, 1), (1, 1)), row(8, (0, 1), (1, 1)), row(3, (1, 1)))
        self.check(False, row(8, (0, 1), (1, 1)), row(8, (0, 1), (1, 1)))

    def test_propagation_over_several_hints(self):
        hints = (clause((0, "<=", 1), (1, ">=", 3)), row(4, (1, 1), (2, 1)), clause((2, ">=", 2), (0, "=", 0)))
        self.check(True, clause((0, "<=", 1)), *hints)
        self.check(False, clause((0, "<=", 0)), *hints)
        self.check(False, clause((0, "<=", 1)), *hints[:2])
        self.check(False, clause((0, "<=", 1)), *hints[1:])

    def test_order_of_hints(self):
        first, second = clause((0, "<=", 1), (1, "=", 3)), clause((1, "!=", 3), (2, "=", 0))
        third = clause((2, "!=", 0))
        fact = clause((0, "<=", 1))
        for hints in itertools.permutations((first, second, third)):
            # The second clause has one live literal only after one of the others.
            self.check(hints[0] != second, fact, *hints)

    def test_order_of_rows(self):
        fact = clause((0, "<=", 3))
        raised, conflict = row(0, (0, 1), (1, -1)), row(3, (1, 1))
        self.check(True, fact, raised, conflict)
        self.check(True, fact, conflict, raised)
        # From x0 = 4 follows x2 >= 1, and only then the last row is a conflict.
        steps = (row(4, (0, 1)), clause((0, "!=", 4), (2, ">=", 1)), row(0, (2, 1)))
        self.check(True, fact, *steps)
        self.check(False, fact, steps[1], steps[0], steps[2])

    def test_two_live_literals(self):
        fact = clause((0, "=", 1))
        self.check(False, fact, clause((1, "=", 1), (2, "=", 1)), NEVER)
        self.check(True, fact, NEVER, clause((1, "=", 1), (2, "=", 1)))
        self.check(False, fact, clause((1, "=", 1), (1, "=", 2)), NEVER)
        self.check(False, fact, clause((1, "<=", 1), (1, "<=", 2)), NEVER)

    def test_two_equal_literals(self):
        fact = clause((0, "=", 1))
        self.check(False, fact, clause((1, "=", 1), (1, "=", 1)), clause((1, "=", 2)))
        self.check(True, fact, clause((1, "=", 1)), clause((1, "=", 2)))
        self.check(True, fact, clause((1, "=", 1), (0, "=", 1)), clause((1, "=", 2)))
        # Equal literals that are not live do not count.
        self.check(True, fact, clause((0, "=", 1), (1, "=", 1), (0, "=", 1)), clause((1, "=", 2)))

    def test_a_row_without_effect_does_not_end(self):
        fact = clause((0, "<=", 2))
        self.check(True, fact, row(99, (0, 1), (1, 1)), row(0), clause((0, "<=", 2)))
        self.check(False, fact, row(99, (0, 1), (1, 1)), row(0))

    def test_the_same_hint_several_times(self):
        # Each turn of both raises x0 and x1 by one.
        fact = clause((0, "<=", 2))
        up, back = row(-1, (0, 1), (1, -1)), row(-1, (0, -1), (1, 1))
        self.check(False, fact, up)
        self.check(True, fact, up, back)
        self.model.move(0, 0, 50)
        self.model.move(1, 0, 50)
        self.check(False, fact, *((up, back) * 11))
        self.check(True, fact, *((up, back) * 30))

    def test_a_row_uses_the_values_when_its_turn_comes(self):
        # Both terms are cut with the ends that stood before: 2 <= x0 and 2 <= x1 are left, no more.
        fact = NEVER
        self.check(True, fact, row(-8, (0, -1), (1, -1)), clause((0, "<=", 2)))
        self.check(False, fact, row(-8, (0, -1), (1, -1)), clause((0, "<=", 3)))
        self.check(True, fact, row(-8, (0, -1), (1, -1)), clause((0, "<=", 3)), row(-8, (0, -1), (1, -1)),
                   clause((1, "<=", 4)))
        self.check(False, fact, row(-8, (0, -1), (1, -1)), clause((0, "<=", 3)), clause((1, "<=", 4)))

    def test_floors(self):
        self.check(True, NEVER, row(7, (0, 2)), clause((0, ">=", 4)))
        self.check(False, NEVER, row(7, (0, 2)), clause((0, ">=", 3)))
        self.check(True, NEVER, row(-7, (0, -2)), clause((0, "<=", 3)))
        self.check(False, NEVER, row(-7, (0, -2)), clause((0, "<=", 4)))
        self.check(True, NEVER, row(-3, (2, 2)), clause((2, ">=", -1)))
        self.check(False, NEVER, row(-3, (2, 2)), clause((2, ">=", -2)))
        self.check(True, NEVER, row(3, (2, -2)), clause((2, "<=", -2)))
        self.check(False, NEVER, row(3, (2, -2)), clause((2, "<=", -1)))

    def test_holes_count(self):
        # x0 is 0, 2 or 5 after the first hints.
        hints = (clause((0, "!=", 1)), clause((0, "!=", 3)), clause((0, "!=", 4)))
        self.check(True, NEVER, *hints, row(-3, (0, -1)), row(4, (0, 1)))
        self.check(False, NEVER, *hints, row(-2, (0, -1)), row(4, (0, 1)))
        self.check(True, clause((0, "=", 0)), *hints, row(-1, (0, 1), (1, -1)), row(2, (1, 1)))
        self.check(False, clause((0, "=", 0)), *hints, row(-1, (0, 1), (1, -1)), row(3, (1, 1)))
        self.check(True, clause((0, "=", 5)), *hints, row(0, (0, -1), (1, 1)), row(-3, (1, -1)))
        self.check(False, clause((0, "=", 5)), *hints, row(0, (0, -1), (1, 1)), row(-2, (1, -1)))

    def test_ends_without_a_conflict(self):
        self.check(False, clause((0, "=", 1)), clause((0, "=", 2)), clause((1, "=", 2)))
        self.check(False, NEVER, clause((0, "=", 1)), row(1, (0, 1)), row(-1, (0, -1)))

    def test_what_is_left_of_other_unknowns_does_not_matter(self):
        self.check(True, clause((0, "<=", 5)), clause((1, "=", 1), (2, "=", 1)))
        self.check(True, row(5, (0, 1)), clause((1, "=", 1), (2, "=", 1)))


class WideTest(unittest.TestCase):
    def test_60_unknowns_with_the_widest_bounds(self):
        model = made([(-1000, 1000)] * 60)
        chain = [row(-1, (v, 1), (v + 1, -1)) for v in range(59)]
        entries = supposed(*chain, row(58, (59, 1)), row(57, (59, 1)), clause(*[(v, "<=", -1) for v in range(60)]))
        numbers = tuple(range(59))
        fact = clause((0, "<=", -1))
        self.assertIs(follows(model, entries, (fact, "unit", numbers + (59,))), True)
        self.assertIs(follows(model, entries, (clause((0, "<=", -2)), "unit", numbers + (59,))), False)
        self.assertIs(follows(model, entries, (clause((0, "<=", -2)), "unit", numbers + (60,))), True)
        self.assertIs(follows(model, entries, (fact, "unit", numbers[::-1] + (59,))), False)
        self.assertIs(follows(model, entries, (fact, "unit", (61,))), False)
        everything = clause(*[(v, "=", a) for v in range(3) for a in range(-1000, 1001)])
        self.assertIs(follows(model, entries, (everything, "unit", ())), True)
        total = row(60000, *[(v, 1) for v in range(60)])
        self.assertIs(follows(model, entries, (total, "unit", ())), True)
        self.assertIs(follows(model, entries, (("row", total[1], 59999), "unit", ())), False)

    def test_numbers_beyond_the_widest_bounds(self):
        model = made([(-1000, 1000)])
        for a in (1001, 1002, 2000, HUGE):
            for literal, always in (((0, "<=", a), True), ((0, ">=", -a), True), ((0, "!=", a), True),
                                    ((0, "!=", -a), True), ((0, ">=", a), False), ((0, "<=", -a), False),
                                    ((0, "=", a), False), ((0, "=", -a), False)):
                self.assertIs(follows(model, [], (clause(literal), "unit", ())), always, literal)
                # Whatever never holds leaves nothing, and all but the two ends are covered by the other literals.
                hint = supposed(clause(literal))
                self.assertIs(follows(model, hint, (("any", ()), "unit", (0,))), not always, literal)
                for end in (-1000, 1000):
                    others = ((0, "<=", end - 1), (0, ">=", end + 1))
                    self.assertIs(follows(model, [], (clause(literal, *others), "unit", ())), always, (literal, end))
                    self.assertIs(follows(model, [], (clause(*others), "unit", ())), False, end)

    def test_present_bounds_count(self):
        model = made([(0, 5)])
        step = (clause((0, "<=", 5)), "unit", ())
        self.assertIs(follows(model, [], step), True)
        model.move(0, -7, 6)
        self.assertIs(follows(model, [], step), False)
        self.assertIs(follows(model, [], (row(7, (0, -1)), "unit", ())), True)


class ManyUnitsTest(unittest.TestCase):
    def test_as_in_the_plain_way(self):
        rng = random.Random(36)
        counts = {True: 0, False: 0}
        for _ in range(6000):
            bounds = [sorted((rng.randint(-2, 3), rng.randint(-2, 4))) for _ in range(3)]
            model = made(bounds)
            facts = [random_fact(rng, [0, 1, 2]) for _ in range(rng.randint(0, 5))]
            fact = random_fact(rng, [0, 1, 2])
            numbers = tuple(rng.randrange(len(facts)) for _ in range(rng.randint(0, 6))) if facts else ()
            expected = naive.unit(model, facts, fact, numbers)
            told = follows(model, supposed(*facts), (fact, "unit", numbers))
            self.assertIs(told, expected, (model.told(), facts, fact, numbers))
            counts[told] += 1
            if told:
                self.check_sound(model, [facts[i] for i in numbers], fact)
        self.assertGreater(min(counts.values()), 1000)

    def check_sound(self, model, hints, fact):
        ranges = [range(model.low(v), model.high(v) + 1) for v in range(model.many())]
        for point in itertools.product(*ranges):
            if all(naive.holds(hint, point) for hint in hints):
                self.assertTrue(naive.holds(fact, point))


if __name__ == "__main__":
    unittest.main()
