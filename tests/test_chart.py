"""Promise [113]: the charting worker."""

import random
import unittest

from commonground.ledger.pen import Pen
from commonground.model.plain import best_plain
from commonground.workers.chart import Chart
from tests.makers import made, plain_solutions, random_edit, random_model
from tests.turns import held


class ChartTest(unittest.TestCase):
    def take(self, ledger, standing, room=None, worker=None):
        """Take a turn and return what it returns, having checked that nothing is written."""
        steps, best = list(ledger), standing.best()
        pen = Pen(ledger, standing, room)
        returned = (worker or Chart()).turn(pen)
        self.assertEqual((list(ledger), pen.written()), (steps, 0))
        self.assertIs(returned, standing.best() != best)
        return returned

    def test_no_point_held(self):
        for goal, best in ((("max", ((0, 1), (1, 2)), 1), (9, (2, 3))), (("min", ((0, 1), (1, 2)), 1), (2, (1, 0))),
                           (("max", (), 4), (4, (0, 1))), (("min", (), 4), (4, (0, 1)))):
            ledger, standing = held(made([(0, 3), (0, 3)], d=("different", (0, 1))), goal)
            self.assertIs(self.take(ledger, standing, 0), True)
            self.assertEqual(standing.best(), best)
            self.assertIs(self.take(ledger, standing), False)

    def test_a_worse_and_an_equally_good_point(self):
        ledger, standing = held(made([(0, 3), (0, 3)]), ("max", ((0, 1), (1, 1)), 0))
        standing.show((3, 2))
        self.assertIs(self.take(ledger, standing), True)
        self.assertEqual(standing.best(), (6, (3, 3)))
        model = made([(0, 3), (0, 3)], r=("row", ((0, 1), (1, 1)), "<=", 4))
        ledger, standing = held(model, ("max", ((0, 1), (1, 1)), 0))
        standing.show((3, 1))
        self.assertIs(self.take(ledger, standing), False)
        self.assertEqual(standing.best(), (4, (3, 1)))

    def test_no_solution(self):
        ledger, standing = held(made([(0, 3), (0, 3)], r=("row", ((0, 2), (1, 2)), "=", 5)))
        self.assertIs(self.take(ledger, standing), False)
        self.assertIsNone(standing.best())

    def test_edits_between_two_turns(self):
        worker = Chart()
        ledger, standing = held(made([(0, 3), (0, 3)]), ("max", ((0, 1), (1, 2)), 0))
        self.assertIs(self.take(ledger, standing, worker=worker), True)
        ledger.put("d", ("different", (0, 1)))
        standing.refresh()
        self.assertIs(self.take(ledger, standing, worker=worker), True)
        self.assertEqual(standing.best(), (8, (2, 3)))
        ledger.aim(("min", ((0, 1), (1, 2)), 0))
        self.assertIs(self.take(ledger, standing, worker=worker), True)
        self.assertEqual(standing.best(), (1, (1, 0)))
        ledger.withdraw("d")
        ledger.move(0, -2, 3)
        self.assertIs(self.take(ledger, standing, worker=worker), True)
        self.assertEqual(standing.best(), (-2, (-2, 0)))

    def test_too_many_points(self):
        ledger, standing = held(made([(-1000, 1000)] * 20, d=("different", tuple(range(20)))), ("max", ((0, 1),), 0))
        self.assertIn(self.take(ledger, standing), (True, False))
        if standing.best() is not None:
            self.assertEqual(standing.best()[0], 1000)

    def test_random_models(self):
        rng = random.Random(113)
        for _ in range(100):
            ledger, standing = held(random_model(rng, "abc"))
            for _ in range(4):
                points = plain_solutions(ledger.model)
                if points and rng.random() < 0.5:
                    standing.show(rng.choice(points))
                self.take(ledger, standing)
                best = best_plain(ledger.model)
                if best is None:
                    self.assertIsNone(standing.best())
                else:
                    self.assertEqual(standing.best()[0], best[0])
                random_edit(rng, ledger, "abcd")
                standing.refresh()


if __name__ == "__main__":
    unittest.main()
