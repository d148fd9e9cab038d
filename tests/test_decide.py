"""Promise [119]: evidence for a common solution of some constraints, or against it."""

import random
import unittest

from commonground.conflict.decide import decide
from commonground.errors import TooLarge
from commonground.facts.judge import accepts
from commonground.facts.parts import label_in
from commonground.model.model import Model
from tests import naive
from tests.makers import made, points_in, random_body


def part_of(model, labels):
    """Return the model with these constraints alone."""
    unknowns, constraints, _ = model.told()
    part = Model(unknowns)
    for label, body in constraints:
        if label in labels:
            part.put(label, body)
    return part


class DecideTest(unittest.TestCase):
    def check(self, model, labels):
        """Check the answer against plain looking, and return its kind."""
        told = model.told()
        given = list(labels)
        answer = decide(model, labels)
        self.assertEqual((model.told(), list(labels)), (told, given))
        bodies = [model.body(label) for label in labels]
        points = [point for point in points_in([(low, high) for _, low, high in told[0]])
                  if all(naive.body_is_met(body, point) for body in bodies)]
        if points:
            self.assertEqual(answer[0], "point")
            self.assertIn(answer[1], points)
        else:
            self.assertEqual((answer[0], len(answer)), ("none", 2))
            self.assertIs(accepts(model, answer), True)
            self.assertIs(accepts(part_of(model, labels), answer), True)
            self.assertLessEqual({label_in(step) for step in answer[1]} - {None}, set(labels))
        return answer[0]


class FixedTest(DecideTest):
    BODIES = {
        "low": ("row", ((0, 1), (1, 1)), "<=", 2), "high": ("row", ((0, 1), (1, 1)), ">=", 5),
        "apart": ("different", (0, 1)), "never": ("any", ((0, "=", 9),)), "same": ("table", (0, 1), ((1, 1), (2, 2))),
    }

    def test_some_of_the_labels(self):
        model = made([(0, 4), (0, 4)], **self.BODIES)
        for labels, kind in (
            (["low"], "point"), (["high"], "point"), (["low", "high"], "none"), (["high", "low"], "none"),
            (["apart", "same"], "none"), (["same", "apart"], "none"), (["same", "low"], "point"),
            (["never"], "none"), (["same", "high", "apart", "low"], "none"),
            (["never", "same", "high", "apart", "low"], "none"),
        ):
            self.assertEqual(self.check(model, labels), kind)
            self.assertEqual(self.check(model, tuple(labels)), kind)

    def test_no_labels(self):
        model = made([(0, 4), (0, 4)], **self.BODIES)
        self.assertEqual(self.check(model, []), "point")
        self.assertEqual(self.check(model, ()), "point")
        self.assertEqual(self.check(made([(3, 3)]), []), "point")

    def test_the_goal_does_not_matter(self):
        model = made([(0, 4), (0, 4)], **self.BODIES)
        model.aim(("min", ((0, 1), (1, -3)), 5))
        self.assertEqual(self.check(model, ["high", "apart"]), "point")
        self.assertEqual(self.check(model, ["high", "low"]), "none")

    def test_other_constraints_that_have_no_solution(self):
        model = made([(0, 4), (0, 4)], zero=("row", (), "<=", -1), low=self.BODIES["low"])
        self.assertEqual(self.check(model, ["low"]), "point")
        self.assertEqual(self.check(model, ["zero", "low"]), "none")


class RandomTest(DecideTest):
    def test_every_kind_of_body(self):
        rng = random.Random(119)
        seen = {}
        for _ in range(300):
            model = made([(-1, 2), (0, 2), (0, 1)], **{label: random_body(rng, 3) for label in "abcd"})
            labels = rng.sample(model.labels(), rng.randint(1, 4))
            kind = self.check(model, labels)
            for label in labels:
                seen[model.body(label)[0], kind] = True
        self.assertEqual(len(seen), 14)

    def test_two_hundred_points_inside(self):
        rng = random.Random(1190)
        kinds = {"point": 0, "none": 0}
        for k in range(120):
            bounds = [[(0, 199)], [(0, 19), (-9, 0)], [(0, 4), (0, 4), (0, 7)], [(-2, 1), (0, 4), (0, 9)],
                      [(0, 1), (0, 1), (-900, -851)], [(0, 1)] * 3 + [(0, 24)], [(0, 1)] * 7][k % 7]
            model = made(bounds, **{label: self.body(rng, bounds) for label in "abcdef"})
            kinds[self.check(model, rng.sample(model.labels(), rng.randint(2, 6)))] += 1
        self.assertGreater(min(kinds.values()), 25, kinds)

    def body(self, rng, bounds):
        if len(bounds) in (3, 4) and rng.random() < 0.5:
            return random_body(rng, len(bounds))
        near = [rng.randint(low, high) for low, high in bounds]
        terms = tuple((v, rng.choice((-7, -3, -2, 2, 3, 5))) for v in range(len(bounds)))
        return ("row", terms, rng.choice(("<=", ">=", "=")), naive.total(terms, near))

    def test_more_points(self):
        model = made([(0, 9)] * 4, a=("row", tuple((v, 2) for v in range(4)), "=", 11), b=("different", (0, 1, 2, 3)))
        for labels in (["a"], ["b"], ["a", "b"]):
            try:
                self.check(model, labels)
            except TooLarge:
                pass


if __name__ == "__main__":
    unittest.main()
