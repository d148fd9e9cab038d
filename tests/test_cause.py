"""Promise [103]: explanations."""

import itertools
import random
import unittest

from commonground.facts.rules import follows
from commonground.ledger.ledger import Ledger
from commonground.workers.cause import cause_of
from tests import naive
from tests.makers import clause, made, points_in, random_body


def without(point, *unknowns):
    return clause(*[(v, "!=", point[v]) for v in unknowns])


class CauseTest(unittest.TestCase):
    def explained(self, bounds, body, worths):
        """Return the explanation, having checked that it follows from the model alone and fails at the values."""
        model = made(bounds, b=body, other=("row", ((0, 1),), "<=", 1000))
        told, given = model.told(), list(worths)
        step = cause_of(model, "b", given)
        self.assertEqual((model.told(), given), (told, list(worths)))
        self.assertIs(follows(model, [], step), True)
        self.assertEqual(Ledger(model).offer(step), 0)
        unknowns = [v for v, _, _ in step[0][1]]
        self.assertEqual(unknowns, sorted(set(unknowns)))
        self.assertLessEqual(set(unknowns), set(naive.body_unknowns(body)))
        self.assertEqual(step[0], without(worths, *unknowns))
        return step

    def check(self, bounds, body, worths, *kept):
        self.assertEqual(self.explained(bounds, body, worths), (without(worths, *kept), "look", "b", ()))


class DifferentTest(CauseTest):
    def check(self, unknowns, worths, x, y):
        step = self.explained([(0, 9)] * len(worths), ("different", unknowns), worths)
        self.assertEqual(step, (without(worths, x, y), "apart", "b"))

    def test_one_pair(self):
        self.check((0, 1), (3, 3), 0, 1)
        self.check((1, 0), (3, 3), 0, 1)
        self.check((3, 0, 2), (4, 4, 5, 4), 0, 3)

    def test_several_pairs(self):
        # The least y, and then the least x.
        self.check((0, 1, 2, 3), (5, 6, 6, 5), 1, 2)
        self.check((3, 2, 1, 0), (5, 6, 6, 5), 1, 2)
        self.check((0, 1, 2, 3), (5, 6, 5, 6), 0, 2)
        self.check((0, 1, 2), (5, 5, 5), 0, 1)
        self.check((3, 2, 1), (7, 6, 7, 7), 2, 3)
        self.check((4, 2, 0, 3), (1, 1, 2, 2, 1), 2, 3)

    def test_twenty_unknowns(self):
        worths = list(range(19)) + [7]
        step = self.explained([(0, 30)] * 20, ("different", tuple(range(20))), worths)
        self.assertEqual(step[0], without(worths, 7, 19))


class LookTest(CauseTest):
    def test_when(self):
        body = ("when", (0, ">=", 1), ((1, 1), (2, 1)), "<=", 3)
        self.check([(0, 2), (0, 3), (0, 3)], body, (1, 3, 3), 0, 1, 2)
        self.check([(1, 2), (0, 3), (0, 3)], body, (1, 3, 3), 1, 2)
        self.check([(0, 2), (0, 3), (1, 2)], body, (1, 3, 1), 0, 1)
        self.check([(1, 2), (4, 5), (0, 2)], body, (1, 4, 1))

    def test_table(self):
        body = ("table", (2, 0), ((1, 1), (2, 2), (3, 3)))
        self.check([(1, 3), (0, 0), (1, 3)], body, (1, 0, 2), 0, 2)
        self.check([(0, 3), (0, 0), (1, 3)], body, (0, 0, 2), 0)
        self.check([(1, 3), (0, 0), (1, 4)], body, (1, 0, 4), 2)
        # The first unknown is considered first.
        self.check([(4, 5), (0, 0), (4, 5)], body, (4, 0, 5))
        self.check([(0, 3), (0, 0), (0, 3)], body, (0, 0, 0), 2)

    def test_element(self):
        body = ("element", 1, (4, 5, 4), 0)
        self.check([(4, 6), (0, 2)], body, (5, 0), 0, 1)
        self.check([(4, 6), (0, 2)], body, (6, 0), 0)
        self.check([(4, 5), (0, 4)], body, (5, 4), 1)
        self.check([(-1, 3)], ("element", 0, (0, 2, 1, 3), 0), (1,), 0)
        self.check([(1, 2)], ("element", 0, (0, 2, 1, 3), 0), (1,))

    def test_times(self):
        self.check([(0, 3), (0, 3), (0, 9)], ("times", 0, 1, 2), (2, 2, 5), 2)
        self.check([(0, 3), (0, 3), (0, 9)], ("times", 0, 1, 2), (2, 1, 4), 1, 2)
        self.check([(0, 3), (0, 3), (0, 9)], ("times", 0, 1, 2), (2, 2, 6), 0, 1, 2)
        self.check([(0, 3), (0, 3), (5, 9)], ("times", 0, 1, 2), (2, 2, 6), 0, 1)
        self.check([(0, 3), (0, 3), (0, 9)], ("times", 0, 1, 2), (2, 1, 3), 0, 2)
        self.check([(0, 3), (0, 3), (0, 9)], ("times", 0, 1, 2), (2, 1, 7), 2)
        self.check([(0, 3), (0, 9)], ("times", 0, 0, 1), (2, 5), 1)
        self.check([(0, 3), (0, 9)], ("times", 0, 0, 1), (2, 1), 0, 1)
        self.check([(0, 3), (0, 9)], ("times", 0, 1, 0), (2, 2), 0, 1)
        self.check([(0, 3), (0, 9)], ("times", 1, 0, 1), (2, 1), 0, 1)
        self.check([(2, 3)], ("times", 0, 0, 0), (2,))
        self.check([(0, 3)], ("times", 0, 0, 0), (2,), 0)

    def test_the_explanation_of_times_is_that_of_its_unknowns_in_order(self):
        self.check([(0, 9), (0, 3), (0, 3)], ("times", 2, 1, 0), (4, 3, 2), 0, 1)
        self.check([(0, 9), (0, 3), (0, 3)], ("times", 2, 1, 0), (6, 2, 2), 0, 1, 2)
        self.check([(0, 9), (0, 3), (0, 3)], ("times", 2, 1, 0), (7, 3, 2), 0)

    def test_values_of_other_unknowns_do_not_count(self):
        model = made([(0, 3)] * 4, b=("table", (1, 3), ((1, 1),)))
        steps = {cause_of(model, "b", [a, 2, b, 1]) for a, b in itertools.product((-5, 0, 10 ** 9), repeat=2)}
        self.assertEqual(steps, {(clause((1, "!=", 2)), "look", "b", ())})


class ChoicesTest(CauseTest):
    def test_sixty_four_choices_and_sixty_five(self):
        body = ("table", (0, 1), ((99, 0),))
        self.check([(0, 63), (0, 0)], body, (5, 0))
        self.check([(0, 64), (0, 0)], body, (5, 0), 0)
        self.check([(0, 64), (0, 1)], body, (5, 0), 0)
        self.check([(0, 7), (0, 7)], body, (5, 0))
        self.check([(0, 7), (0, 8)], body, (5, 0), 1)
        self.check([(0, 12), (0, 4)], body, (5, 0), 1)
        # An unknown that is too wide is kept, and those behind it are considered all the same.
        self.check([(0, 64), (0, 63)], body, (5, 0), 0)
        self.check([(0, 31), (0, 64), (0, 1)], ("table", (0, 1, 2), ((99, 0, 0),)), (5, 0, 0), 1)

    def test_wide_bounds(self):
        body = ("when", (0, ">=", 0), ((1, 1), (2, 1)), "<=", 3)
        self.check([(-1000, 1000)] * 3, body, (0, 1000, 1000), 0, 1, 2)
        self.check([(0, 1)] + [(-1000, 1000)] * 2, body, (0, 1000, 1000), 1, 2)
        terms = tuple((v, 1) for v in range(60))
        self.check([(0, 1)] * 60, ("when", (0, ">=", 0), terms, "<=", -1), (0,) * 60, *range(6, 60))


class RandomTest(CauseTest):
    def plain_kept(self, bounds, body, worths):
        """Return what is kept by the words of the promise, choices being points of the unknowns of the body."""
        unknowns = naive.body_unknowns(body)
        kept = set(unknowns)
        for v in unknowns:
            free = [x for x in unknowns if x not in kept] + [v]
            wider = []
            for values in itertools.product(*[range(bounds[x][0], bounds[x][1] + 1) for x in free]):
                wider.append({**{x: worths[x] for x in unknowns}, **dict(zip(free, values))})
            if len(wider) <= 64 and not any(naive.body_is_met(body, choice) for choice in wider):
                kept.discard(v)
        return sorted(kept)

    def test_random_bodies(self):
        rng = random.Random(103)
        seen = {}
        while len(seen) < 5 or min(seen.values()) < 60:
            bounds = [(low, low + rng.choice((0, 1, 3, 6))) for low in (-2, 0, rng.randint(0, 1))]
            body = random_body(rng, 3)
            failing = [p for p in points_in(bounds) if not naive.body_is_met(body, p)]
            if body[0] in ("row", "any") or not failing:
                continue
            seen[body[0]] = seen.get(body[0], 0) + 1
            worths = rng.choice(failing)
            if body[0] == "different":
                pairs = [(y, x) for x, y in itertools.combinations(sorted(body[1]), 2) if worths[x] == worths[y]]
                y, x = min(pairs)
                self.assertEqual(self.explained(bounds, body, worths), (without(worths, x, y), "apart", "b"))
            else:
                self.check(bounds, body, worths, *self.plain_kept(bounds, body, worths))


if __name__ == "__main__":
    unittest.main()
