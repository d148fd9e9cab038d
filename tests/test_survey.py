"""Promises [114] to [117] and [120] to [122]: smallest conflicts, smallest repairs, and the cheapest repair."""

import itertools
import random
import unittest

from commonground.conflict.hitting import hitting_sets
from commonground.conflict.survey import cheapest_repair, smallest_conflict, survey
from commonground.errors import NoSuch, Taken, TooLarge
from commonground.facts.judge import accepts
from commonground.facts.parts import label_in
from tests.makers import made, plain_solutions, random_body, random_model


def solutions_with(model, soft, chosen):
    """Return the solutions of the model with these of the soft labels."""
    part = model.copy()
    for label in soft:
        if label not in chosen:
            part.withdraw(label)
    return plain_solutions(part)


def places(model, labels):
    return tuple(model.labels().index(label) for label in labels)


def plain_sets(model, soft):
    """Return the smallest conflicts, all repairs and the smallest repairs, by plain looking at all sets."""
    ordered = [label for label in model.labels() if label in soft]
    sets = [one for many in range(len(ordered) + 1) for one in itertools.combinations(ordered, many)]
    conflicts = [one for one in sets if not solutions_with(model, soft, one)]
    repairs = [one for one in sets if solutions_with(model, soft, [label for label in soft if label not in one])]
    found = []
    for kind in (conflicts, repairs):
        smallest = [one for one in kind if not any(set(other) < set(one) for other in kind)]
        found.append(sorted(smallest, key=lambda one: places(model, one)))
    return found[0], repairs, found[1]


class SurveyTest(unittest.TestCase):
    def check_certificate(self, model, soft, labels, certificate):
        self.assertEqual((certificate[0], len(certificate)), ("none", 2))
        self.assertIs(accepts(model, certificate), True)
        hard = [label for label in model.labels() if label not in soft]
        self.assertLessEqual({label_in(step) for step in certificate[1]} - {None}, set(labels) | set(hard))

    def check(self, model, soft):
        """Check all three functions; return the labels of the smallest conflicts and of the smallest repairs."""
        told = model.told()
        smallest, all_repairs, expected = plain_sets(model, soft)
        found = survey(model, soft)
        self.assertIs(type(found), tuple)
        conflicts, repairs = found
        self.assertEqual([labels for labels, _ in conflicts], smallest)
        self.assertEqual([labels for labels, _ in repairs], expected)
        for labels, certificate in conflicts:
            self.check_certificate(model, soft, labels, certificate)
        for labels, point in repairs:
            self.assertIn(point, solutions_with(model, soft, [label for label in soft if label not in labels]))
        self.check_order(model, soft)
        for weights in ((0,) * len(soft), (1,) * len(soft), tuple(range(len(soft))), (1000000, 0, 3, 3, 1, 1)):
            self.check_cheapest(model, soft, weights[:len(soft)], all_repairs)
        self.assertEqual(model.told(), told)
        return smallest, expected

    def check_order(self, model, order):
        """Check the smallest conflict for the order by the words of [120]."""
        found = smallest_conflict(model, order)
        if solutions_with(model, order, order):
            self.assertIsNone(found)
            return
        kept = list(order)
        for label in order:
            rest = [other for other in kept if other != label]
            if not solutions_with(model, order, rest):
                kept = rest
        labels, certificate = found
        self.assertEqual(labels, tuple(label for label in model.labels() if label in kept))
        self.check_certificate(model, order, labels, certificate)

    def check_cheapest(self, model, soft, weights, repairs):
        found = cheapest_repair(model, soft, weights)
        if not repairs:
            self.assertIsNone(found)
            return
        weighing = dict(zip(soft, weights))
        ranks = [(sum(weighing[label] for label in one), len(one), places(model, one), one) for one in repairs]
        weight, labels, point = found
        self.assertEqual((weight, labels), (min(ranks)[0], min(ranks)[3]))
        self.assertIn(point, solutions_with(model, soft, [label for label in soft if label not in labels]))


class FixedTest(SurveyTest):
    def model(self):
        return made([(0, 4), (0, 4)], one=("any", ((0, "=", 1),)), two=("any", ((0, "=", 2),)),
                    sums=("row", ((0, 1), (1, 1)), "=", 4), large=("row", ((1, 1),), ">=", 3),
                    three=("any", ((0, "=", 3),)))

    def test_no_soft_labels(self):
        self.assertEqual(self.check(self.model(), ()), ([()], []))
        self.assertEqual(self.check(made([(0, 4)]), ()), ([], [()]))
        self.assertIsNone(smallest_conflict(made([(0, 4)]), ()))
        self.assertIsNone(cheapest_repair(self.model(), (), ()))

    def test_all_soft(self):
        conflicts, repairs = self.check(self.model(), ("one", "two", "sums", "large", "three"))
        self.assertEqual(conflicts, [("one", "two"), ("one", "three"), ("two", "sums", "large"), ("two", "three"),
                                     ("sums", "large", "three")])
        self.assertEqual(repairs, [("one", "two", "sums"), ("one", "two", "large"), ("one", "sums", "three"),
                                   ("one", "large", "three"), ("two", "three")])

    def test_orders_other_than_that_of_the_model(self):
        for order in itertools.permutations(("one", "two", "sums", "large", "three")):
            self.check_order(self.model(), order)
        self.check(self.model(), ("three", "large", "one", "sums", "two"))
        self.assertEqual(smallest_conflict(self.model(), ("one", "two", "sums", "large", "three"))[0],
                         ("sums", "large", "three"))
        self.assertEqual(smallest_conflict(self.model(), ("three", "large", "sums", "two", "one"))[0], ("one", "two"))

    def test_hard_constraints_without_a_solution(self):
        model = self.model()
        model.put("bad", ("row", ((0, 2), (1, 2)), "=", 5))
        self.assertEqual(self.check(model, ("one", "two")), ([()], []))
        self.assertEqual(smallest_conflict(model, ("one", "two"))[0], ())
        self.assertIsNone(cheapest_repair(model, ("one", "two"), (3, 4)))

    def test_a_model_with_a_solution(self):
        model = made([(0, 4), (0, 4)], one=("any", ((0, "=", 1),)), sums=("row", ((0, 1), (1, 1)), "=", 4))
        self.assertEqual(self.check(model, ("sums", "one")), ([], [()]))
        self.assertEqual(cheapest_repair(model, ("sums", "one"), (3, 4))[:2], (0, ()))
        self.assertEqual(self.check(model, ("one",)), ([], [()]))

    def test_some_hard_constraints(self):
        self.assertEqual(self.check(self.model(), ("one", "two", "three")),
                         ([("two",), ("three",)], [("two", "three")]))
        self.assertEqual(self.check(self.model(), ("large", "sums", "three")), ([()], []))

    def test_a_constraint_that_fails_alone(self):
        model = made([(0, 4)], good=("row", ((0, 1),), "<=", 3), bad=("row", (), ">=", 1),
                     worse=("any", ((0, "=", 7),)))
        self.assertEqual(self.check(model, ("worse", "good", "bad")), ([("bad",), ("worse",)], [("bad", "worse")]))


class CheapestTest(SurveyTest):
    def model(self):
        return made([(0, 3)], a=("any", ((0, "=", 0),)), b=("any", ((0, "=", 1),)), c=("any", ((0, "=", 2),)))

    def check_weights(self, soft, weights, expected):
        found = cheapest_repair(self.model(), soft, weights)
        self.assertEqual(found[:2], expected)
        self.check_cheapest(self.model(), soft, weights, plain_sets(self.model(), soft)[1])

    def test_several_cheapest_repairs(self):
        self.check_weights(("a", "b", "c"), (1, 1, 1), (2, ("a", "b")))
        self.check_weights(("c", "b", "a"), (1, 1, 1), (2, ("a", "b")))
        self.check_weights(("a", "b", "c"), (2, 1, 1), (2, ("b", "c")))
        self.check_weights(("a", "b", "c"), (1, 2, 1), (2, ("a", "c")))

    def test_the_order_of_soft(self):
        self.check_weights(("c", "a", "b"), (2, 1, 5), (3, ("a", "c")))
        self.check_weights(("b", "c", "a"), (5, 2, 1), (3, ("a", "c")))

    def test_weights_of_zero_and_great_ones(self):
        self.check_weights(("a", "b", "c"), (0, 0, 0), (0, ("a", "b")))
        self.check_weights(("a", "b", "c"), (0, 5, 0), (0, ("a", "c")))
        self.check_weights(("a", "b", "c"), (1000000, 1000000, 999999), (1999999, ("a", "c")))

    def test_fewer_labels_for_the_same_weight(self):
        model = made([(0, 3)], a=("any", ((0, "=", 0),)), b=("any", ((0, "<=", 1),)), c=("any", ((0, "=", 3),)))
        self.assertEqual(cheapest_repair(model, ("a", "b", "c"), (1, 1, 2))[:2], (2, ("c",)))
        self.assertEqual(cheapest_repair(model, ("a", "b", "c"), (0, 0, 0))[:2], (0, ("c",)))
        self.assertEqual(cheapest_repair(model, ("a", "b", "c"), (1, 0, 2))[:2], (1, ("a", "b")))


class ErrorsTest(unittest.TestCase):
    def model(self, many=12):
        return made([(0, 9)], **{f"c{k}": ("any", ((0, "=", k % 3),)) for k in range(many)})

    def check(self, soft, error, what=None):
        model = self.model()
        told = model.told()
        for call in (lambda: smallest_conflict(model, soft), lambda: survey(model, soft),
                     lambda: cheapest_repair(model, soft, (1,) * len(soft))):
            with self.assertRaises(error) as caught:
                call()
            self.assertIs(type(caught.exception), error)
            if what is not None:
                self.assertEqual(caught.exception.what, what)
        self.assertEqual(model.told(), told)

    def test_ten_and_eleven(self):
        ten = tuple(f"c{k}" for k in range(10))
        self.check(ten + ("c10",), TooLarge)
        self.check(ten + ("zz",), TooLarge)
        self.check(("c0",) * 11, TooLarge)
        self.check(("zz",) * 11, TooLarge)
        model = self.model(10)
        conflicts, repairs = survey(model, ten)
        self.assertEqual((len(conflicts), len(repairs)), (4 * 3 + 4 * 3 + 3 * 3, 3))
        self.assertIsNotNone(smallest_conflict(model, ten))
        self.assertEqual(cheapest_repair(model, ten, (1,) * 10)[:2], (6, ("c1", "c2", "c4", "c5", "c7", "c8")))

    def test_labels_that_no_constraint_has(self):
        self.check(("zz",), NoSuch, "zz")
        self.check(("c0", "zz", "yy"), NoSuch, "zz")
        self.check(("zz", "zz"), NoSuch, "zz")

    def test_labels_twice(self):
        self.check(("c0", "c1", "c0"), Taken, "c0")
        self.check(("c1", "c1", "c0", "c0"), Taken, "c1")

    def test_the_first_one_counts(self):
        self.check(("c0", "c0", "zz"), Taken, "c0")
        self.check(("c0", "zz", "c0"), NoSuch, "zz")


class RandomTest(SurveyTest):
    def test_random_models(self):
        rng = random.Random(121)
        sizes = {}
        for _ in range(120):
            model = random_model(rng, "abcdefg"[:rng.randint(1, 6)])
            soft = tuple(rng.sample(model.labels(), rng.randint(0, len(model.labels()))))
            conflicts, repairs = self.check(model, soft)
            sizes[min(len(conflicts), 3), min(len(repairs), 3)] = True
            self.check_duality(model, soft, conflicts, repairs)
        self.assertGreaterEqual(len(sizes), 7, sizes)

    def check_duality(self, model, soft, conflicts, repairs):
        """Check [116]: the smallest ones of each kind are the smallest hitting sets of the others."""
        of_conflicts = [places(model, one) for one in conflicts]
        of_repairs = [places(model, one) for one in repairs]
        self.assertEqual(hitting_sets(of_conflicts), of_repairs)
        if repairs:
            self.assertEqual(hitting_sets(of_repairs), of_conflicts)

    def test_two_hundred_points_inside(self):
        rng = random.Random(1210)
        for _ in range(10):
            model = made([(0, 4), (0, 4), (0, 7)], **{label: random_body(rng, 3) for label in "abcdef"})
            self.check(model, tuple(rng.sample(model.labels(), 5)))


if __name__ == "__main__":
    unittest.main()
