"""Promises [104] to [106]: the learning worker."""

import random
import unittest

from commonground.errors import Stopped, TooLarge
from commonground.facts.fact import negation
from commonground.ledger.bounding import contradiction_in, entry_for
from commonground.ledger.pen import Pen
from commonground.workers.learn import Learn
from commonground.workers.linear import Linear
from commonground.workers.narrow import Narrow
from commonground.workers.settled import is_settled
from tests import naive
from tests.makers import (
    NEVER, clause, made, plain_solutions, points_in, random_body, random_edit, random_linear_model, random_model, row,
)
from tests.turns import check_answer, held, others_write


def bounds_of(model):
    return [(low, high) for _, low, high in model.told()[0]]


def most_turns(model):
    """Return (S + 1) * (Q + 1)."""
    values = {model.worth(point) for point in points_in(bounds_of(model))}
    clauses = 1
    for low, high in bounds_of(model):
        clauses *= high - low + 2
    return (len(values) + 1) * (clauses + 1)


class LearnTest(unittest.TestCase):
    def take(self, worker, ledger, standing, room=None):
        """Take a turn and return what it returns, having checked that it did something unless it was settled."""
        before = (ledger.many(), standing.best())
        settled = is_settled(ledger, standing)
        returned = worker.turn(Pen(ledger, standing, room))
        after = (ledger.many(), standing.best())
        self.assertIs(returned, not settled)
        self.assertIs(after != before, returned)
        if after[1] != before[1]:
            self.assertTrue(ledger.model.is_solution(after[1][1]))
        self.check_entries(ledger, before[0])
        return returned

    def check_entries(self, ledger, before):
        """Check the rules of what was written, and the forms of what was learned."""
        for i in range(before, ledger.many()):
            fact, rule = ledger.step(i)[:2]
            self.assertIn(rule, ("given", "suppose", "look", "apart", "unit", "cases"))
            if rule in ("look", "apart", "unit"):
                self.assertEqual({relation for _, relation, _ in fact[1]} - {"!="}, set())
            if rule in ("given", "look", "apart", "cases"):
                self.assertTrue(ledger.is_open(i))

    def settle(self, ledger, standing, rng=None, room=None):
        """Take turns until one returns False; return the number of those that returned True."""
        worker = Learn()
        turns = 0
        going = True
        while going:
            before = ledger.many()
            try:
                going = self.take(worker, ledger, standing, room)
                turns += going
            except Stopped:
                self.assertEqual(ledger.many(), before + room)
            if rng is not None and rng.random() < 0.5:
                worker = Learn()
        self.assertIs(is_settled(ledger, standing), True)
        return turns

    def check(self, bounds, goal, bodies, expected):
        model = made(bounds, **bodies)
        ledger, standing = held(model, goal)
        turns = self.settle(ledger, standing)
        self.assertLessEqual(turns, most_turns(model))
        self.assertEqual(check_answer(self, ledger, standing), expected)
        return ledger, standing


class SettledTest(LearnTest):
    def test_nothing_happens(self):
        for bounds in ([(0, 3), (0, 3)], [(1, 1), (1, 1)]):
            for goal in (("max", ((0, 1), (1, -2)), 3), ("min", ((1, 1),), 0), ("max", (), 0)):
                ledger, standing = held(made(bounds, d=("different", (0, 1))), goal)
                self.settle(ledger, standing)
                steps, best = list(ledger), standing.best()
                for room in (None, 0, 5):
                    self.assertIs(Learn().turn(Pen(ledger, standing, room)), False)
                self.assertEqual((list(ledger), standing.best()), (steps, best))

    def test_settled_by_others(self):
        model = made([(0, 3), (0, 3)], r=("row", ((0, 2), (1, 2)), "<=", 7))
        ledger, standing = held(model, ("max", ((0, 1), (1, 1)), 0))
        Linear().turn(Pen(ledger, standing))
        standing.show((1, 2))
        self.assertIs(self.take(Learn(), ledger, standing), False)
        ledger, standing = held(made([(0, 3)], e=("element", 0, (9,), 0)))
        ledger.offer((NEVER, "look", "e", ()))
        self.assertIs(self.take(Learn(), ledger, standing), False)


class FixedTest(LearnTest):
    def test_one_point_inside(self):
        ledger, standing = held(made([(3, 3), (-2, -2)]), ("min", ((0, 1),), 1))
        self.assertIs(self.take(Learn(), ledger, standing, 0), True)
        self.assertEqual((standing.best(), ledger.many()), ((4, (3, -2)), 0))
        self.assertIs(self.take(Learn(), ledger, standing), True)
        self.assertIs(self.take(Learn(), ledger, standing), False)
        self.assertEqual(check_answer(self, ledger, standing), 4)

    def test_no_solution(self):
        for bodies in (
            {"d": ("different", (0, 1)), "r": ("row", ((0, 1), (1, -1)), "=", 0)},
            {"a": ("any", ((0, "=", 9), (1, "<=", -1)))},
            {"w": ("when", (0, ">=", 0), ((1, 1),), ">=", 5)},
            {"e": ("element", 0, (9, 9), 1)},
            {"t": ("times", 0, 1, 1), "r": ("row", ((0, 1),), ">=", 2), "s": ("row", ((1, 1),), ">=", 1)},
            {"t": ("table", (1, 0), ((0, 9), (9, 0)))},
            {"r": ("row", ((0, 2), (1, 2)), "=", 5)},
            {"r": ("row", (), "<=", -1)},
        ):
            for goal in (("max", ((0, 1),), 0), ("min", (), 4)):
                ledger, _ = self.check([(0, 3), (0, 3)], goal, bodies, None)
                self.assertNotIn("suppose", [step[1] for step in ledger])

    def test_one_solution(self):
        bodies = {"d": ("different", (0, 1, 2)), "r": ("row", ((0, 1), (1, 2), (2, 4)), "=", 14),
                  "t": ("table", (0, 2), ((2, 3), (3, 2)))}
        self.check([(0, 3)] * 3, ("min", ((1, 1),), 0), bodies, 0)

    def test_several_best_ones(self):
        bodies = {"r": ("row", ((0, 1), (1, 1)), "<=", 3)}
        self.check([(0, 3), (0, 3)], ("max", ((0, 1), (1, 1)), 5), bodies, 8)
        self.check([(0, 3), (0, 3)], ("min", ((0, 1), (1, 1)), 5), bodies, 5)
        self.check([(0, 3), (0, 3)], ("max", (), 5), bodies, 5)
        self.check([(0, 3), (0, 3)], ("min", (), -5), {}, -5)

    def test_great_bounds(self):
        bodies = {"r": ("row", ((0, 3), (1, 5)), "=", 41), "w": ("when", (0, ">=", 3), ((1, 1),), "<=", 1)}
        ledger, standing = held(made([(-1000, 1000), (-30, 30)], **bodies), ("max", ((1, 1),), 0))
        self.settle(ledger, standing)
        self.assertEqual(standing.best(), (28, (-33, 28)))
        self.assertIsNotNone(entry_for(ledger, 28))


class DescentTest(LearnTest):
    def test_what_is_given_is_stated(self):
        bodies = {"r": ("row", ((0, 1), (1, 1)), "=", 3), "a": ("any", ((0, "=", 1), (1, "=", 1))),
                  "s": ("row", ((0, 1),), "<=", 3), "d": ("different", (0, 1))}
        ledger, standing = held(made([(0, 3), (0, 3)], **bodies))
        Learn().turn(Pen(ledger, standing))
        for fact, label in ((row(3, (0, 1), (1, 1)), "r"), (row(-3, (0, -1), (1, -1)), "r"), (bodies["a"], "a"),
                            (row(3, (0, 1)), "s")):
            self.assertIn((fact, "given", label), list(ledger))

    def test_explanations_are_written_and_applied(self):
        # All that is left to choose is the value of the last unknown, at which the body fails three times.
        for body in (("table", (0, 1), ((1, 2), (2, 3))), ("element", 0, (0, 2, 1), 1), ("times", 0, 2, 1),
                     ("when", (0, "=", 1), ((1, 1),), "=", 2)):
            ledger, standing = held(made([(1, 1), (0, 3), (2, 2)], b=body))
            self.assertIs(self.take(Learn(), ledger, standing), True)
            self.assertEqual(standing.best(), (0, (1, 2, 2)))
            self.assertEqual({step[0] for step in ledger}, {clause((1, "!=", a)) for a in (0, 1, 3)})
            self.assertEqual({step[1:] for step in ledger}, {("look", "b", ())})
        ledger, standing = held(made([(1, 1), (0, 1)], b=("different", (0, 1))))
        self.assertIs(self.take(Learn(), ledger, standing), True)
        self.assertEqual(list(ledger), [(clause((0, "!=", 1), (1, "!=", 1)), "apart", "b")])
        self.assertEqual(standing.best(), (0, (1, 0)))

    def test_a_conflict_without_fixed_unknowns(self):
        ledger, standing = held(made([(1, 1), (3, 3)], b=("table", (0, 1), ((1, 2), (2, 3)))))
        self.assertIs(self.take(Learn(), ledger, standing), True)
        self.assertEqual(ledger.fact(contradiction_in(ledger)), NEVER)
        self.assertIs(self.take(Learn(), ledger, standing), False)

    def test_the_goal_row_at_the_end(self):
        for sense, point in (("max", (3, 3)), ("min", (0, 0))):
            ledger, standing = held(made([(0, 3), (0, 3)]), (sense, ((0, 1), (1, 2)), 4))
            standing.show(point)
            self.assertIs(self.take(Learn(), ledger, standing), True)
            improving = ledger.model.improving_row(standing.best()[0])
            i = entry_for(ledger, standing.best()[0])
            fact, rule, closed, t, s, second = ledger.step(i)
            self.assertEqual((fact, rule, second), (negation(improving), "cases", t))
            self.assertEqual((ledger.step(s), ledger.under(closed)), ((improving, "suppose"), (s,)))
            self.assertIs(ledger.is_open(i), True)

    def test_entries_are_applied_until_nothing_more_is_removed(self):
        # The unknown with the fewest values is fixed first; then the row and the clause leave 0 and 1 to the next one.
        terms = ((0, 1), (2, -4))
        for literal, linear in (((0, "<=", 3), ("row", terms, ">=", 0)), ((0, "!=", 3), ("row", terms, "=", -1))):
            model = made([(0, 9), (0, 3), (0, 1)], a=("any", (literal, (1, "<=", 1))), r=linear)
            ledger, standing = held(model, ("max", ((1, 1), (2, 1)), 0))
            self.assertIs(self.take(Learn(), ledger, standing), True)
            self.assertEqual(standing.best()[1][1:], (1, 1))
            self.assertEqual({step[1] for step in ledger}, {"given"})

    def test_what_stands_already_is_used(self):
        # By the entries of the narrowing worker alone there is a conflict at once.
        ledger, standing = held(made([(0, 9), (0, 9)], a=("row", ((0, 1), (1, -1)), "<=", -1),
                                     t=("table", (0, 1), tuple((a, a) for a in range(10)))))
        ledger.offer((clause((0, "<=", 4)), "suppose"))
        ledger.offer((clause((0, "=", 4)), "suppose"))
        while Narrow().turn(Pen(ledger, standing)):
            pass
        many = ledger.many()
        self.settle(ledger, standing)
        self.assertLessEqual(ledger.many(), many + 1)

    def test_learned_clauses(self):
        rng = random.Random(105)
        sizes = {}
        for k in range(60):
            model = random_linear_model(rng)
            ledger, standing = held(model)
            while not is_settled(ledger, standing):
                before, best = ledger.many(), standing.best()
                self.take(Learn(), ledger, standing)
                rules = [ledger.step(i)[1] for i in range(before, ledger.many())]
                # One descent: a point, or one clause that is learned at most.
                self.assertLessEqual(rules.count("unit") + (standing.best() != best), 1)
            for i in range(ledger.many()):
                fact, rule = ledger.step(i)[:2]
                if rule == "unit":
                    unknowns = [v for v, _, _ in fact[1]]
                    self.assertEqual(len(set(unknowns)), len(unknowns))
                    sizes[len(unknowns)] = sizes.get(len(unknowns), 0) + 1
        self.assertGreaterEqual(len(sizes), 3, sizes)


class RandomTest(LearnTest):
    def model(self, rng, k):
        if k % 3 == 0:
            return random_linear_model(rng, 3, ((-1, 3), (0, 3), (0, 2)))
        bounds = [(low, low + rng.randint(0, 4)) for low in (-1, 0, 0, 1)[:rng.randint(2, 4)]]
        return random_model(rng, "abcd"[:rng.randint(0, 4)], bounds)

    def test_turns_and_answers(self):
        rng = random.Random(106)
        ends = {True: 0, False: 0}
        for k in range(250):
            model = self.model(rng, k)
            ledger, standing = held(model)
            turns = self.settle(ledger, standing, rng)
            self.assertLessEqual(turns, most_turns(model))
            ends[check_answer(self, ledger, standing) is None] += 1
        self.assertGreater(min(ends.values()), 50, ends)

    def test_every_kind_of_body(self):
        rng = random.Random(1060)
        kinds = {}
        for _ in range(200):
            body = random_body(rng, 3)
            ledger, standing = held(made([(-1, 2), (0, 3), (0, 1)], b=body), ("min", ((0, 1), (1, -2), (2, 3)), 0))
            self.settle(ledger, standing, rng)
            kinds[body[0], check_answer(self, ledger, standing) is None] = True
        self.assertGreaterEqual(len(kinds), 12, kinds)

    def test_rooms(self):
        rng = random.Random(1061)
        stopped = 0
        for k in range(120):
            ledger, standing = held(self.model(rng, k))
            worker = Learn()
            going = True
            while going:
                before = (ledger.many(), standing.best())
                room = rng.randint(1, 5)
                try:
                    going = self.take(worker, ledger, standing, room)
                except Stopped:
                    stopped += 1
                    self.assertEqual((ledger.many(), standing.best()), (before[0] + room, before[1]))
                if rng.random() < 0.5:
                    worker = Learn()
            check_answer(self, ledger, standing)
        self.assertGreater(stopped, 80)

    def test_one_worker_for_two_ledgers(self):
        rng = random.Random(1062)
        for k in range(30):
            pairs = [held(self.model(rng, k)) for _ in range(2)]
            worker = Learn()
            while any([self.take(worker, ledger, standing) for ledger, standing in pairs]):
                pass
            for ledger, standing in pairs:
                check_answer(self, ledger, standing)

    def test_points_and_entries_of_others_and_edits(self):
        rng = random.Random(1063)
        for _ in range(80):
            ledger, standing = held(random_model(rng, "abc"))
            for _ in range(4):
                for _ in range(rng.randint(0, 5)):
                    self.take(Learn(), ledger, standing)
                random_edit(rng, ledger, "abcd")
                standing.refresh()
                others_write(rng, ledger, rng.choice((0, 6)))
                for point in rng.sample(plain_solutions(ledger.model), min(1, len(plain_solutions(ledger.model)))):
                    standing.show(point)
                Narrow().turn(Pen(ledger, standing, None))
            self.settle(ledger, standing)
            check_answer(self, ledger, standing)

    def test_withdrawn_and_put_back(self):
        rng = random.Random(1064)
        for k in range(60):
            model = random_model(rng, "abc")
            ledger, standing = held(model)
            self.settle(ledger, standing)
            label = rng.choice(model.labels())
            ledger.withdraw(label)
            standing.refresh()
            for _ in range(rng.randint(0, 4)):
                self.take(Learn(), ledger, standing)
            ledger.put(label, model.body(label))
            standing.refresh()
            self.settle(ledger, standing)
            check_answer(self, ledger, standing)


class LimitTest(LearnTest):
    def test_no_room(self):
        model = made([(0, 3), (0, 3)], r=("row", ((0, 2), (1, 2)), "=", 5))
        ledger, standing = held(model, ("max", ((0, 1),), 0))
        for _ in range(3):
            self.assertRaises(Stopped, Learn().turn, Pen(ledger, standing, 0))
            self.assertEqual((ledger.many(), standing.best()), (0, None))
        self.settle(ledger, standing)
        check_answer(self, ledger, standing)

    def test_a_full_ledger(self):
        ledger, standing = held(made([(0, 3), (0, 3)], r=("row", ((0, 2), (1, 2)), "=", 5)))
        for _ in range(19999):
            ledger.offer((row(3, (1, 1)), "bound", 1))
        self.assertRaises(TooLarge, Learn().turn, Pen(ledger, standing))
        self.assertEqual(ledger.many(), 20000)
        self.assertRaises(TooLarge, Learn().turn, Pen(ledger, standing))

    def test_a_point_that_is_no_solution_any_more(self):
        ledger, standing = held(made([(0, 3), (0, 3)]), ("max", ((0, 1), (1, 1)), 0))
        standing.show((2, 2))
        ledger.put("r", ("row", ((0, 1), (1, 1)), "<=", 3))
        # Without a refresh the point is still held, and the ledger shows that nothing is better.
        self.settle(ledger, standing)
        self.assertIsNotNone(entry_for(ledger, 4))
        standing.refresh()
        self.settle(ledger, standing)
        check_answer(self, ledger, standing)


class FollowTest(unittest.TestCase):
    def test_what_is_learned_holds_at_solutions(self):
        rng = random.Random(1065)
        for _ in range(60):
            model = random_model(rng, "abc")
            ledger, standing = held(model)
            while Learn().turn(Pen(ledger, standing)):
                pass
            for point in plain_solutions(model):
                for i in range(ledger.many()):
                    if all(naive.holds(ledger.fact(s), point) for s in ledger.under(i)):
                        self.assertTrue(naive.holds(ledger.fact(i), point))


if __name__ == "__main__":
    unittest.main()
