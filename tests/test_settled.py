"""Promise [77]: when a ledger with a standing is settled."""

import unittest

from commonground.ledger.ledger import Ledger
from commonground.ledger.standing import Standing
from commonground.workers.settled import is_settled
from tests.makers import NEVER, clause, made, row

TERMS = ((0, 2), (1, 1))


def fresh(goal=("max", TERMS, 3), **bodies):
    model = made([(0, 4), (0, 4)], less=("row", ((0, 1), (1, 1)), "<=", 5), **bodies)
    model.aim(goal)
    ledger = Ledger(model)
    return ledger, Standing(ledger)


class ContradictionTest(unittest.TestCase):
    def test_open(self):
        for body in (("row", (), "<=", -1), ("row", (), ">=", 7)):
            ledger, standing = fresh(n=body)
            self.assertIs(is_settled(ledger, standing), False)
            ledger.offer((row(-1), "given", "n") if body[2] == "<=" else (row(-7), "given", "n"))
            self.assertIs(is_settled(ledger, standing), True)

    def test_a_clause_without_literals(self):
        ledger, standing = fresh(e=("element", 0, (9,), 1))
        ledger.offer((NEVER, "look", "e", ()))
        self.assertIs(is_settled(ledger, standing), True)

    def test_under_a_supposition(self):
        ledger, standing = fresh()
        ledger.offer((row(-1), "suppose"))
        ledger.offer((NEVER, "absurd", 0))
        self.assertIs(is_settled(ledger, standing), False)

    def test_asleep(self):
        ledger, standing = fresh(n=("row", (), "<=", -1))
        ledger.offer((row(-1), "given", "n"))
        ledger.withdraw("n")
        self.assertIs(is_settled(ledger, standing), False)
        ledger.put("n", ("row", (), "=", 1))
        self.assertIs(is_settled(ledger, standing), True)


class BestTest(unittest.TestCase):
    STEPS = (
        (row(5, (0, 1), (1, 1)), "given", "less"),
        (row(4, (0, 1)), "bound", 0),
    )

    def filled(self, rhs, goal=("max", TERMS, 3)):
        ledger, standing = fresh(goal)
        for step in self.STEPS + ((("row", TERMS, rhs), "sum", ((0, 1), (1, 1))),):
            ledger.offer(step)
        return ledger, standing

    def test_max(self):
        ledger, standing = self.filled(9)
        self.assertIs(is_settled(ledger, standing), False)
        standing.show((3, 2))
        self.assertIs(is_settled(ledger, standing), False)
        standing.show((4, 1))
        self.assertIs(is_settled(ledger, standing), True)

    def test_an_entry_that_just_does_not_imply_the_goal_row(self):
        ledger, standing = self.filled(10)
        standing.show((4, 1))
        self.assertIs(is_settled(ledger, standing), False)
        ledger.offer((("row", TERMS, 9), "suppose"))
        ledger.offer((("row", TERMS, 9), "weaken", 3))
        self.assertIs(is_settled(ledger, standing), False)
        ledger.offer((("row", TERMS, 9), "sum", ((0, 1), (1, 1))))
        self.assertIs(is_settled(ledger, standing), True)

    def test_asleep(self):
        ledger, standing = self.filled(9)
        standing.show((4, 1))
        ledger.withdraw("less")
        self.assertIs(is_settled(ledger, standing), False)
        ledger.put("less", ("row", ((0, 1), (1, 1)), "<=", 5))
        self.assertIs(is_settled(ledger, standing), True)
        ledger.aim(("min", TERMS, 3))
        self.assertIs(is_settled(ledger, standing), False)

    def test_min(self):
        ledger, standing = fresh(("min", ((0, 3),), -7))
        standing.show((1, 1))
        ledger.offer((row(0, (0, -1)), "bound", 0))
        self.assertIs(is_settled(ledger, standing), False)
        standing.show((0, 1))
        # A bound of the one unknown implies the goal row.
        self.assertIs(is_settled(ledger, standing), True)

    def test_a_literal(self):
        ledger, standing = fresh(("max", ((0, 3),), 0), e=("element", 0, (1, 1, 1), 1))
        ledger.offer((clause((0, "<=", 2)), "look", "e", ()))
        standing.show((1, 1))
        self.assertIs(is_settled(ledger, standing), False)
        standing.show((2, 1))
        self.assertIs(is_settled(ledger, standing), True)

    def test_a_goal_without_terms(self):
        for sense in ("max", "min"):
            ledger, standing = fresh((sense, (), 3))
            ledger.offer((row(0), "sum", ()))
            self.assertIs(is_settled(ledger, standing), False)
            standing.show((0, 0))
            self.assertIs(is_settled(ledger, standing), True)
            ledger, standing = fresh((sense, (), 3))
            standing.show((0, 0))
            ledger.offer((row(1), "sum", ()))
            self.assertIs(is_settled(ledger, standing), False)

    def test_no_point_held(self):
        ledger, standing = self.filled(9)
        self.assertIs(is_settled(ledger, standing), False)


if __name__ == "__main__":
    unittest.main()
