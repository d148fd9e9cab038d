"""Promise [33]: the rule look, and look_cost."""

import itertools
import random
import unittest

from commonground.facts.choices import look_cost
from commonground.facts.rules import follows
from tests import naive
from tests.makers import NEVER, clause, made, random_body, random_fact, row, supposed

HUGE = 10 ** 40


class LookTest(unittest.TestCase):
    def check(self, expected, model, fact, label, *hints):
        """Check whether the look with these hints follows, and that the plain way tells the same."""
        numbers = tuple(range(len(hints)))
        told = follows(model, supposed(*hints), (fact, "look", label, numbers))
        self.assertIs(told, expected, (fact, label, hints))
        self.assertEqual(naive.look(model, list(hints), fact, label, numbers), expected, (fact, label, hints))


class KindsTest(LookTest):
    def test_row(self):
        model = made([(0, 5), (0, 5)], c=("row", ((0, 2), (1, 3)), "=", 12))
        # The solutions are (0, 4) and (3, 2).
        self.check(True, model, clause((0, "=", 0), (0, "=", 3)), "c")
        self.check(False, model, clause((0, "=", 0), (0, "=", 2)), "c")
        self.check(True, model, row(5, (0, 1), (1, 1)), "c")
        self.check(False, model, row(4, (0, 1), (1, 1)), "c")
        self.check(True, model, row(4, (0, 1), (1, 1)), "c", clause((0, "!=", 3)))
        self.check(False, model, row(3, (0, 1), (1, 1)), "c", clause((0, "!=", 3)))

    def test_row_without_terms(self):
        model = made([(0, 5)], yes=("row", (), "<=", 0), no=("row", (), "<=", -1))
        self.check(True, model, NEVER, "no")
        self.check(True, model, row(-7), "no")
        self.check(False, model, NEVER, "yes")
        self.check(False, model, row(-1), "yes")
        self.check(True, model, row(0), "yes")
        self.check(False, model, clause((0, "<=", 5)), "yes")
        self.check(False, model, clause((0, "<=", 5)), "no")

    def test_any(self):
        model = made([(0, 5), (0, 5)], c=("any", ((0, ">=", 4), (1, "=", 2), (1, ">=", 4))))
        self.check(True, model, clause((0, ">=", 4), (1, ">=", 2)), "c")
        self.check(False, model, clause((0, ">=", 4), (1, ">=", 3)), "c")
        self.check(True, model, row(-2, (0, -1), (1, -1)), "c")
        self.check(False, model, row(-3, (0, -1), (1, -1)), "c")
        self.check(True, model, row(-4, (1, -1)), "c", row(3, (0, 1)), clause((1, "!=", 2)))
        self.check(False, model, row(-4, (1, -1)), "c", row(4, (0, 1)), clause((1, "!=", 2)))

    def test_when(self):
        model = made([(0, 5), (0, 5)], c=("when", (0, ">=", 3), ((0, 1), (1, 1)), "<=", 5))
        self.check(True, model, clause((0, "<=", 2), (1, "<=", 2)), "c")
        self.check(False, model, clause((0, "<=", 2), (1, "<=", 1)), "c")
        self.check(True, model, row(7, (0, 1), (1, 1)), "c")
        self.check(False, model, row(6, (0, 1), (1, 1)), "c")

    def test_different(self):
        model = made([(0, 2), (0, 2), (0, 2)], c=("different", (2, 0, 1)))
        self.check(True, model, row(3, (0, 1), (1, 1), (2, 1)), "c")
        self.check(False, model, row(2, (0, 1), (1, 1), (2, 1)), "c")
        self.check(True, model, clause((0, "=", 1)), "c", clause((1, "=", 0)), clause((2, "=", 2)))
        self.check(True, model, clause((0, "=", 1)), "c", clause((1, "=", 0)), clause((2, "=", 0), (2, "=", 2)))
        self.check(False, model, clause((0, "=", 1)), "c", clause((1, "=", 0)), clause((2, "=", 1), (2, "=", 2)))

    def test_table(self):
        model = made([(0, 5), (0, 5)], c=("table", (1, 0), ((0, 1), (2, 3), (9, 0), (2, 3), (4, 5))))
        self.check(True, model, clause((0, "=", 1), (0, "=", 3), (0, "=", 5)), "c")
        self.check(False, model, clause((0, "=", 1), (0, "=", 3)), "c")
        self.check(True, model, row(-1, (0, -1)), "c")
        self.check(False, model, row(-1, (1, -1)), "c")
        self.check(True, model, row(-1, (0, -1), (1, 1)), "c")
        self.check(True, model, clause((0, "=", 3)), "c", clause((1, "=", 2)))
        self.check(True, model, NEVER, "c", clause((1, "=", 3)))
        self.check(False, model, NEVER, "c")

    def test_element(self):
        model = made([(-2, 5), (0, 9)], c=("element", 0, (4, 0, 11, 7), 1))
        # Indexes that do not exist, and the entry 11, are no choices.
        self.check(True, model, clause((0, "=", 0), (0, "=", 1), (0, "=", 3)), "c")
        self.check(False, model, clause((0, "=", 0), (0, "=", 1)), "c")
        self.check(True, model, clause((1, "=", 0), (1, "=", 4), (1, "=", 7)), "c")
        self.check(False, model, clause((1, "=", 0), (1, "=", 7)), "c")
        self.check(True, model, row(0, (0, -1)), "c")
        self.check(True, model, row(3, (0, 1)), "c")
        self.check(False, model, row(2, (0, 1)), "c")
        self.check(True, model, row(1, (0, 1)), "c", row(6, (1, 1)))
        self.check(True, model, NEVER, "c", clause((0, "=", 2)))
        self.check(True, model, NEVER, "c", clause((0, "=", -1)))
        self.check(True, model, NEVER, "c", clause((0, "=", 4)))

    def test_element_of_one_unknown(self):
        model = made([(-2, 9)], c=("element", 0, (2, 1, 0, 3, 9), 0))
        self.check(True, model, clause((0, "=", 1), (0, "=", 3)), "c")
        self.check(False, model, clause((0, "=", 3)), "c")
        self.check(False, model, clause((0, "=", 1)), "c")
        self.check(True, model, NEVER, "c", row(0, (0, 1)))

    def test_times(self):
        model = made([(0, 5), (0, 5), (0, 3)], c=("times", 0, 1, 2))
        self.check(True, model, clause((0, "<=", 3), (1, "<=", 0)), "c")
        self.check(False, model, clause((0, "<=", 2), (1, "<=", 0)), "c")
        self.check(True, model, clause((0, "=", 1), (1, "=", 1)), "c", clause((2, "=", 3)))
        self.check(False, model, clause((0, "=", 1), (1, "=", 1)), "c", clause((2, "=", 0)))
        self.check(True, model, clause((2, "=", 2)), "c", clause((0, "=", 2)), clause((1, "=", 1)))

    def test_times_with_equal_unknowns(self):
        model = made([(-4, 4), (-9, 9)], square=("times", 0, 0, 1), keep=("times", 0, 1, 1), back=("times", 0, 1, 0),
                     idem=("times", 0, 0, 0))
        self.check(True, model, clause((1, "=", 0), (1, "=", 1), (1, "=", 4), (1, "=", 9)), "square")
        self.check(False, model, clause((1, "=", 0), (1, "=", 1), (1, "=", 4)), "square")
        self.check(True, model, row(3, (0, 1)), "square")
        self.check(False, model, row(2, (0, 1)), "square")
        self.check(True, model, clause((0, "=", 1), (1, "=", 0)), "keep")
        self.check(False, model, clause((0, "=", 1)), "keep")
        self.check(True, model, clause((1, "=", 1), (0, "=", 0)), "back")
        self.check(False, model, clause((1, "=", 1)), "back")
        self.check(True, model, clause((0, "=", 1), (0, "=", 0)), "idem")
        self.check(False, model, clause((0, "=", 1)), "idem")
        self.check(False, model, clause((0, "=", 0)), "idem")


class CostTest(LookTest):
    """Costs of 400 and just above it, with facts that hold at all choices of the body."""

    def always(self, v):
        """Return a row that holds at all points inside, so that only the cost decides."""
        return row(5000, (v, 1))

    def check_cost(self, expected, cost, model, label):
        fact = self.always(0)
        self.check(expected, model, fact, label)
        self.assertEqual(look_cost(model, model.body(label), fact), cost)

    def test_products_of_two(self):
        bodies = {
            "row": ("row", ((0, 1), (1, 1)), "<=", 5),
            "any": ("any", ((0, "=", 1), (1, "=", 1))),
            "when": ("when", (0, "=", 1), ((1, 1),), "<=", 5),
            "diff": ("different", (0, 1)),
            "times": ("times", 0, 1, 2),
        }
        for label, body in bodies.items():
            for high, cost in ((19, 400), (20, 420)):
                with self.subTest(label=label, cost=cost):
                    model = made([(0, 19), (0, high), (-1000, 1000), (-1000, 1000)], **{label: body})
                    self.check_cost(cost <= 400, cost, model, label)

    def test_single_unknowns(self):
        bodies = {
            "row": ("row", ((0, 1),), "<=", 5),
            "any": ("any", ((0, "=", 1), (0, "=", 3))),
            "when": ("when", (0, "=", 1), ((0, 1),), "<=", 5),
            "times": ("times", 0, 0, 1),
            "idem": ("times", 0, 0, 0),
            "keep": ("times", 0, 2, 0),
        }
        for label, body in bodies.items():
            for high, cost in ((399, 400), (400, 401)):
                with self.subTest(label=label, cost=cost):
                    model = made([(0, high), (-1000, 1000), (7, 7)], **{label: body})
                    self.check_cost(cost <= 400, cost, model, label)

    def test_three_unknowns(self):
        for high, cost in ((3, 400), (4, 500)):
            model = made([(1, 10), (1, 10), (0, high)], c=("different", (0, 1, 2)))
            self.check_cost(cost <= 400, cost, model, "c")
        model = made([(1, 3), (1, 3), (1, 3), (1, 3), (1, 3), (1, 2)], c=("different", (0, 1, 2, 3, 4, 5)))
        self.check_cost(False, 486, model, "c")

    def test_the_product_of_a_times_body_costs_nothing(self):
        model = made([(0, 19), (0, 19), (-1000, 1000)], c=("times", 0, 1, 2), d=("times", 2, 0, 1))
        self.check_cost(True, 400, model, "c")
        self.check_cost(False, 2001 * 20, model, "d")

    def test_tables_and_elements_cost_nothing(self):
        model = made([(-1000, 1000), (-1000, 1000)], table=("table", (0, 1), tuple((a, a) for a in range(200))),
                     element=("element", 0, tuple(range(60)), 1))
        for label in ("table", "element"):
            self.check(True, model, row(0, (0, 1), (1, -1)), label)
            self.check(False, model, row(-1, (0, 1), (1, -1)), label)
            self.assertEqual(look_cost(model, model.body(label), row(0, (0, 1))), 0)
            self.assertEqual(look_cost(model, model.body(label), clause((0, "=", 1))), 0)

    def test_hints_that_count_as_literals_lower_the_cost(self):
        model = made([(0, 19), (0, 20)], c=("row", ((0, 1), (1, 1)), "<=", 100))
        fact = self.always(0)
        self.check(False, model, fact, "c")
        for hint in (row(19, (1, 1)), row(39, (1, 2)), row(-1, (1, -1)), clause((1, "!=", 7)), clause((0, ">=", 1))):
            self.check(True, model, fact, "c", hint)
        for hint in (row(20, (1, 1)), clause((1, "!=", 77)), row(0)):
            self.check(False, model, fact, "c", hint)

    def test_other_hints_do_not_lower_the_cost(self):
        model = made([(0, 19), (0, 20)], c=("row", ((0, 1), (1, 1)), "<=", 100))
        for hint in (row(3, (0, 1), (1, 1)), clause((1, "=", 1), (1, "=", 2)), clause((1, "=", 1), (1, "=", 1)), NEVER,
                     row(-1)):
            self.check(False, model, self.always(0), "c", hint)

    def test_literals_of_a_clause_lower_the_cost(self):
        model = made([(0, 19), (0, 20)], c=("row", ((0, 1), (1, 1)), "<=", 100))
        body = model.body("c")
        for literal, cost in (((1, "=", 4), 400), ((1, ">=", 20), 400), ((1, "<=", 0), 400), ((1, "=", 21), 420),
                              ((0, "=", 3), 399), ((1, "!=", 4), 20)):
            fact = clause(literal)
            self.assertEqual(look_cost(model, body, fact), cost)
            # What is left violates the fact, and the body holds there.
            self.check(False, model, fact, "c")
        fact = clause((0, "<=", 9), (1, "<=", 9), (0, "=", 19))
        self.assertEqual(look_cost(model, body, fact), 99)
        self.check(False, model, fact, "c")

    def test_a_clause_may_make_a_look_cheap_enough(self):
        model = made([(0, 19), (0, 20)], c=("row", ((0, 1), (1, 1)), "<=", 20))
        self.check(True, model, clause((1, "<=", 10), (0, "<=", 9)), "c")
        self.check(False, model, clause((1, "<=", 10), (0, "<=", 8)), "c")
        self.check(False, model, row(20, (0, 1), (1, 1)), "c")

    def test_a_row_does_not(self):
        model = made([(0, 401)], c=("row", ((0, 1),), "<=", 5))
        self.assertEqual(look_cost(model, model.body("c"), row(5, (0, 1))), 402)
        self.check(False, model, row(5, (0, 1)), "c")
        self.assertEqual(look_cost(model, model.body("c"), clause((0, "<=", 5))), 396)
        self.check(True, model, clause((0, "<=", 5)), "c")

    def test_no_value_left_costs_nothing(self):
        model = made([(0, 5), (-1000, 1000), (-1000, 1000)], c=("row", ((0, 1), (1, 1), (2, 1)), "<=", 5),
                     t=("times", 1, 2, 0), e=("element", 1, (1,), 0))
        for label in "cte":
            body = model.body(label)
            for fact in (clause((0, "<=", 5)), clause((0, "<=", 2), (0, ">=", 3)), clause((0, "!=", 4), (0, "=", 4))):
                self.assertEqual(look_cost(model, body, fact), 0)
                self.check(True, model, fact, label)
        self.assertEqual(look_cost(model, model.body("c"), clause((0, "<=", 4))), 2001 * 2001)
        self.assertEqual(look_cost(model, model.body("t"), clause((0, "<=", 4))), 2001 * 2001)
        self.assertEqual(look_cost(model, model.body("c"), row(5, (0, 1))), 6 * 2001 * 2001)
        self.assertEqual(look_cost(model, model.body("t"), clause((2, "!=", 4), (0, "=", 0))), 2001)

    def test_no_unknowns(self):
        model = made([(0, 5)], c=("row", (), "<=", 0))
        self.assertEqual(look_cost(model, model.body("c"), row(0)), 1)
        self.assertEqual(look_cost(model, model.body("c"), NEVER), 1)

    def test_many_wide_unknowns(self):
        model = made([(-1000, 1000)] * 60, c=("row", tuple((v, 1) for v in range(60)), "<=", 0))
        self.assertEqual(look_cost(model, model.body("c"), row(0)), 2001 ** 60)
        self.check(False, model, row(0, (0, 1)), "c")
        fixed = [clause((v, "=", v // 4)) for v in range(59)]
        rest = -sum(v // 4 for v in range(59))
        self.check(False, model, row(rest, (59, 1)), "c", *fixed)
        self.check(True, model, row(rest, (59, 1)), "c", *fixed, row(-1400, (59, 2)))
        self.check(False, model, row(rest - 1, (59, 1)), "c", *fixed, clause((59, "=", rest)))

    def test_look_cost_changes_nothing(self):
        model = made([(0, 5)], c=("row", ((0, 1),), "<=", 0))
        before = model.told()
        look_cost(model, model.body("c"), clause((0, "<=", 3)))
        self.assertEqual(model.told(), before)


class HintsTest(LookTest):
    def setUp(self):
        self.model = made([(0, 5), (0, 5), (0, 5)], c=("row", ((0, 1), (1, 1)), "<=", 5))

    def test_all_hints_must_hold(self):
        self.check(True, self.model, row(2, (1, 1)), "c", row(-3, (0, -1)))
        self.check(False, self.model, row(2, (1, 1)), "c", row(-2, (0, -1)))
        self.check(True, self.model, row(2, (1, 1)), "c", row(-3, (0, -1), (1, 1)), clause((0, "<=", 3), (1, "=", 0)))
        self.check(True, self.model, row(2, (0, 1)), "c", row(0, (0, 1), (1, -1)))
        self.check(False, self.model, row(1, (0, 1)), "c", row(0, (0, 1), (1, -1)))

    def test_several_hints_on_one_unknown(self):
        self.check(True, self.model, clause((0, "=", 2), (0, "=", 4)), "c", row(4, (0, 1)), row(-2, (0, -1)),
                   clause((0, "!=", 3)))
        self.check(False, self.model, clause((0, "=", 2)), "c", row(4, (0, 1)), row(-2, (0, -1)), clause((0, "!=", 3)))

    def test_no_value_left(self):
        self.check(True, self.model, NEVER, "c", row(-1, (0, 1)))
        self.check(True, self.model, NEVER, "c", row(2, (0, 1)), row(-3, (0, -1)))
        self.check(True, self.model, NEVER, "c", clause((1, "=", 6)))
        self.check(True, self.model, clause((0, "<=", 2)), "c", row(2, (0, 1)))

    def test_hints_that_are_contradictions(self):
        self.check(True, self.model, NEVER, "c", NEVER)
        self.check(True, self.model, NEVER, "c", row(-1))
        self.check(False, self.model, NEVER, "c", row(0))

    def test_unknowns_that_are_not_of_the_body(self):
        self.check(True, self.model, row(5, (0, 1)), "c", row(5, (1, 1)))
        self.check(False, self.model, row(5, (0, 1)), "c", row(5, (2, 1)))
        self.check(False, self.model, row(5, (0, 1)), "c", row(9, (1, 1), (2, 1)))
        self.check(False, self.model, row(5, (0, 1)), "c", clause((0, "=", 3), (2, "=", 1)))
        self.check(False, self.model, row(5, (2, 1)), "c")
        self.check(False, self.model, row(50, (0, 1), (2, 1)), "c")
        self.check(False, self.model, clause((0, "<=", 5), (2, "=", 1)), "c")
        # Not even where no value or no choice is left.
        self.check(False, self.model, NEVER, "c", row(-1, (0, 1)), row(5, (2, 1)))
        self.check(False, self.model, clause((2, "=", 1)), "c", NEVER)

    def test_the_fact_without_a_hint_with_the_same_unknown(self):
        self.check(True, self.model, row(5, (0, 1)), "c")
        self.check(False, self.model, row(4, (0, 1)), "c")

    def test_numbers_of_any_size(self):
        self.check(True, self.model, row(HUGE, (0, HUGE)), "c", row(HUGE, (0, HUGE)))
        self.check(False, self.model, row(HUGE - 1, (0, HUGE)), "c", row(HUGE, (0, HUGE)))
        self.check(True, self.model, clause((0, "!=", HUGE)), "c")
        self.check(True, self.model, clause((0, "<=", HUGE)), "c")
        self.check(False, self.model, clause((0, ">=", HUGE)), "c")
        self.check(True, self.model, clause((0, ">=", -HUGE)), "c", clause((0, "!=", -HUGE)))
        self.check(False, self.model, NEVER, "c", clause((0, "<=", HUGE)), clause((0, ">=", -HUGE)))


class ManyLooksTest(unittest.TestCase):
    def test_as_in_the_plain_way(self):
        rng = random.Random(33)
        counts = {True: 0, False: 0}
        for _ in range(6000):
            bounds = [sorted((rng.randint(-2, 3), rng.randint(-2, 4))) for _ in range(3)]
            model = made(bounds, c=random_body(rng, 3))
            unknowns = naive.body_unknowns(model.body("c")) or [0]
            facts = [random_fact(rng, unknowns) for _ in range(rng.choice((0, 1, 1, 2, 3)))]
            fact = random_fact(rng, unknowns)
            numbers = tuple(range(len(facts)))
            expected = naive.look(model, facts, fact, "c", numbers)
            told = follows(model, supposed(*facts), (fact, "look", "c", numbers))
            self.assertIs(told, expected, (model.told(), facts, fact))
            counts[told] += 1
            if told:
                self.check_sound(model, facts, fact)
        self.assertGreater(min(counts.values()), 1000)

    def check_sound(self, model, facts, fact):
        ranges = [range(model.low(v), model.high(v) + 1) for v in range(model.many())]
        for point in itertools.product(*ranges):
            if naive.body_is_met(model.body("c"), point) and all(naive.holds(hint, point) for hint in facts):
                self.assertTrue(naive.holds(fact, point))


if __name__ == "__main__":
    unittest.main()
