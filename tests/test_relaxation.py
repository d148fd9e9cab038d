"""Promises [68] and [69]: the rows at hand and the relaxation."""

import random
import unittest

from commonground.facts.fact import as_row
from commonground.ledger.ledger import Ledger
from commonground.workers.relaxation import relaxation, rows_at_hand
from tests import naive
from tests.makers import clause, made, plain_solutions, random_edit, random_model, random_steps, row
from tests.programs import is_feasible

BOUNDS = [(0, 4), (-1, 5), (0, 1)]


class RowsTest(unittest.TestCase):
    def check(self, bodies, entries, expected):
        ledger = Ledger(made(BOUNDS, **bodies))
        for step in entries:
            ledger.offer(step)
        self.assertEqual(rows_at_hand(ledger), expected)
        return ledger

    def test_no_rows(self):
        self.check({}, (), [])
        self.check({"a": ("any", ((0, "<=", 1),)), "w": ("when", (0, "=", 1), ((1, 1),), "<=", 3),
                    "d": ("different", (0, 1)), "t": ("times", 0, 1, 2)}, (), [])

    def test_each_relation(self):
        terms = ((0, 2), (1, -1))
        negated = ((0, -2), (1, 1))
        self.check({"r": ("row", terms, "<=", 3)}, (), [("row", terms, 3)])
        self.check({"r": ("row", terms, ">=", 3)}, (), [("row", negated, -3)])
        self.check({"r": ("row", terms, "=", 3)}, (), [("row", negated, -3), ("row", terms, 3)])
        self.check({"r": ("row", (), "=", 3)}, (), [row(-3)])
        self.check({"r": ("row", (), "=", -3)}, (), [row(-3)])
        self.check({"r": ("row", (), "<=", 3)}, (), [row(3)])

    def test_entries_that_count_as_rows(self):
        self.check({}, (
            (row(4, (0, 1)), "bound", 0),
            (clause((1, "<=", 5)), "unit", ()),
            (clause((1, ">=", -1)), "unit", ()),
            (clause((0, "!=", 5)), "unit", ()),
            (clause((0, "<=", 4), (1, "<=", 5)), "unit", ()),
            (row(0), "sum", ()),
        ), [row(0), row(4, (0, 1)), row(1, (1, -1)), row(5, (1, 1))])

    def test_entries_that_are_not_open(self):
        self.check({}, (
            (row(1, (0, 1)), "suppose"),
            (row(2, (0, 1)), "weaken", 0),
            (row(3, (1, 1)), "suppose"),
            (row(4, (0, 1)), "bound", 0),
        ), [row(4, (0, 1))])

    def test_entries_that_are_asleep(self):
        terms = ((0, 2), (1, -1))
        ledger = self.check({"r": ("row", terms, "<=", 3), "s": ("row", ((2, 1),), "<=", 0)}, (
            (("row", terms, 2 + 1), "given", "r"),
            (("row", ((0, 4), (1, -2)), 6), "sum", ((0, 2),)),
        ), [("row", terms, 3), ("row", ((0, 4), (1, -2)), 6), row(0, (2, 1))])
        ledger.withdraw("r")
        self.assertEqual(rows_at_hand(ledger), [row(0, (2, 1))])
        ledger.put("r", ("row", terms, "=", 3))
        self.assertEqual(rows_at_hand(ledger), [
            ("row", ((0, -2), (1, 1)), -3), ("row", terms, 3), ("row", ((0, 4), (1, -2)), 6), row(0, (2, 1))])

    def test_equal_terms(self):
        terms = ((0, 1), (1, 1))
        self.check({"a": ("row", terms, "<=", 4), "b": ("row", terms, "<=", 3), "c": ("row", terms, "<=", 5)}, (),
                   [("row", terms, 3)])
        self.check({"a": ("row", terms, "<=", 4)}, (
            (("row", terms, 4), "given", "a"), (("row", terms, 6), "weaken", 0)), [("row", terms, 4)])
        self.check({"a": ("row", ((0, 1),), "<=", 5)}, ((row(4, (0, 1)), "bound", 0),), [row(4, (0, 1))])
        self.check({"a": ("row", ((0, 1),), "<=", 3)}, ((row(4, (0, 1)), "bound", 0),), [row(3, (0, 1))])
        self.check({}, ((row(6, (0, 1)), "bound", 0), (row(4, (0, 1)), "bound", 0), (row(5, (0, 1)), "bound", 0)),
                   [row(4, (0, 1))])

    def test_the_order_of_the_terms(self):
        sides = [(), ((0, -2),), ((0, -1),), ((0, 1),), ((0, 1), (1, -3)), ((0, 1), (1, 2)), ((0, 1), (2, 1)),
                 ((0, 2),), ((1, -9),), ((2, 1),)]
        self.assertEqual(sides, sorted(sides))
        shuffled = random.Random(68).sample(sides, len(sides))
        bodies = {f"r{k}": ("row", terms, "<=", 20) for k, terms in enumerate(shuffled)}
        self.check(bodies, (), [("row", terms, 20) for terms in sides])

    def test_a_new_list(self):
        ledger = self.check({"r": ("row", ((0, 2),), "<=", 3)}, (), [row(3, (0, 2))])
        rows_at_hand(ledger).append(1)
        self.assertEqual(rows_at_hand(ledger), [row(3, (0, 2))])

    def test_random_ledgers(self):
        rng = random.Random(680)
        for _ in range(60):
            model = random_model(rng)
            ledger = Ledger(model)
            for step in random_steps(rng, model, 40):
                ledger.offer(step)
            random_edit(rng, ledger, "ab")
            self.check_rows(ledger)
            self.check_relaxation(ledger)

    def check_rows(self, ledger):
        _, constraints, _ = ledger.model.told()
        stated = []
        for _, body in constraints:
            if body[0] == "row":
                _, terms, relation, rhs = body
                stated += [(terms, rhs)] if relation != ">=" else []
                stated += [(tuple((v, -c) for v, c in terms), -rhs)] if relation != "<=" else []
        for i in range(ledger.many()):
            if ledger.awake(i) and ledger.under(i) == () and as_row(ledger.fact(i)):
                stated.append(as_row(ledger.fact(i))[1:])
        expected = [("row", terms, min(rhs for other, rhs in stated if other == terms))
                    for terms in sorted({terms for terms, _ in stated})]
        self.assertEqual(rows_at_hand(ledger), expected)

    def check_relaxation(self, ledger):
        model = ledger.model
        program = relaxation(ledger)
        self.assertEqual(program[2], tuple(fact[1:] for fact in rows_at_hand(ledger)))
        for point in plain_solutions(model):
            self.assertTrue(is_feasible(program, point))
            sense, terms, _ = model.goal()
            self.assertEqual(naive.total(program[3], point), naive.total(terms, point) * (1 if sense == "max" else -1))


class RelaxationTest(unittest.TestCase):
    def test_what_it_is(self):
        model = made(BOUNDS, r=("row", ((0, 1), (1, 1)), ">=", 3))
        for goal, aim in (
            (("max", ((0, 3), (2, -1)), 7), ((0, 3), (2, -1))),
            (("min", ((0, 3), (2, -1)), 7), ((0, -3), (2, 1))),
            (("max", (), 7), ()),
            (("min", (), -7), ()),
        ):
            model.aim(goal)
            told = relaxation(Ledger(model))
            self.assertEqual(told, ((0, -1, 0), (4, 5, 1), ((((0, -1), (1, -1)), -3),), aim))
            self.assertTrue(all(isinstance(part, tuple) for part in told))

    def test_the_bounds_as_they_are_now(self):
        ledger = Ledger(made(BOUNDS))
        ledger.move(1, 2, 3)
        self.assertEqual(relaxation(ledger), ((0, 2, 0), (4, 3, 1), (), ()))


if __name__ == "__main__":
    unittest.main()
