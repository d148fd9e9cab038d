"""Promise [48]: the standing best point."""

import unittest

from commonground.errors import NotASolution
from commonground.ledger.ledger import Ledger
from commonground.ledger.standing import Standing
from commonground.model.model import Model


def made(sense="max"):
    model = Model((("x", 0, 4), ("y", 0, 4)))
    model.put("sum", ("row", ((0, 1), (1, 1)), "<=", 5))
    model.aim((sense, ((0, 2), (1, 1)), 3))
    ledger = Ledger(model)
    return ledger, Standing(ledger)


class StandingTest(unittest.TestCase):
    def test_at_first_none(self):
        _, standing = made()
        self.assertIsNone(standing.best())
        self.assertIsNone(standing.refresh())
        self.assertIsNone(standing.best())

    def test_better_points_are_held(self):
        _, standing = made("max")
        for point, better, best in (
            ((1, 1), True, (6, (1, 1))),
            ((1, 1), False, (6, (1, 1))),
            ((0, 3), False, (6, (1, 1))),
            ((1, 0), False, (6, (1, 1))),
            ((1, 2), True, (7, (1, 2))),
            ((4, 1), True, (12, (4, 1))),
            ((3, 2), False, (12, (4, 1))),
        ):
            self.assertIs(standing.show(point), better)
            self.assertEqual(standing.best(), best)

    def test_smaller_is_better_for_min(self):
        _, standing = made("min")
        for point, better, best in (
            ((1, 1), True, (6, (1, 1))),
            ((0, 3), False, (6, (1, 1))),
            ((1, 2), False, (6, (1, 1))),
            ((0, 2), True, (5, (0, 2))),
            ((1, 0), False, (5, (0, 2))),
        ):
            self.assertIs(standing.show(point), better)
            self.assertEqual(standing.best(), best)

    def test_points_that_are_no_solutions(self):
        _, standing = made()
        for point in ((3, 3), (5, 0), (-1, 0), (0, 5)):
            with self.assertRaises(NotASolution):
                standing.show(point)
            self.assertIsNone(standing.best())
        standing.show((1, 1))
        for point in ((3, 3), (5, 0), (-1, 0)):
            with self.assertRaises(NotASolution):
                standing.show(point)
            self.assertEqual(standing.best(), (6, (1, 1)))

    def test_the_model_as_it_is_now_counts(self):
        ledger, standing = made()
        ledger.put("more", ("row", ((0, 1),), "<=", 1))
        with self.assertRaises(NotASolution):
            standing.show((2, 1))
        ledger.withdraw("more")
        self.assertIs(standing.show((2, 1)), True)

    def test_refresh_keeps_solutions(self):
        ledger, standing = made()
        standing.show((2, 1))
        ledger.put("more", ("row", ((0, 1),), "<=", 2))
        ledger.move(1, 1, 1)
        standing.refresh()
        self.assertEqual(standing.best(), (8, (2, 1)))

    def test_refresh_drops_what_is_no_solution_any_more(self):
        for change, given in (("put", ("more", ("row", ((0, 1),), "<=", 1))), ("move", (0, 3, 4)), ("move", (1, 0, 0))):
            ledger, standing = made()
            standing.show((2, 1))
            getattr(ledger, change)(*given)
            self.assertIsNone(standing.refresh())
            self.assertIsNone(standing.best())

    def test_a_worse_point_is_held_after_a_drop(self):
        ledger, standing = made()
        standing.show((4, 1))
        ledger.move(0, 0, 1)
        standing.refresh()
        self.assertIs(standing.show((0, 0)), True)
        self.assertEqual(standing.best(), (3, (0, 0)))
        # What was dropped does not come back.
        ledger.move(0, 0, 4)
        standing.refresh()
        self.assertEqual(standing.best(), (3, (0, 0)))

    def test_the_value_is_that_of_the_present_goal(self):
        ledger, standing = made()
        standing.show((1, 2))
        ledger.aim(("min", ((1, 5),), -1))
        standing.refresh()
        self.assertEqual(standing.best(), (9, (1, 2)))
        self.assertIs(standing.show((4, 0)), True)
        self.assertEqual(standing.best(), (-1, (4, 0)))
        ledger.aim(("max", ((1, 5),), -1))
        self.assertIs(standing.show((0, 1)), True)

    def test_without_terms_the_first_point_stays(self):
        ledger, standing = made()
        ledger.aim(("max", (), 0))
        self.assertIs(standing.show((1, 1)), True)
        self.assertIs(standing.show((2, 2)), False)
        self.assertEqual(standing.best(), (0, (1, 1)))


if __name__ == "__main__":
    unittest.main()
