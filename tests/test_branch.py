"""Promises [78] to [81]: the branching worker."""

import random
import unittest

from commonground.errors import Stopped, TooLarge
from commonground.facts.fact import is_contradiction, negation
from commonground.facts.judge import accepts
from commonground.ledger.bounding import entry_for
from commonground.ledger.certificate import cut
from commonground.ledger.pen import Pen
from commonground.workers.branch import Branch
from commonground.workers.linear import Linear
from commonground.workers.settled import is_settled
from tests.makers import (
    NEVER, made, plain_solutions, points_in, random_body, random_edit, random_linear_model, random_model, row,
)
from tests.turns import check_answer, held


def points_inside(model):
    unknowns, _, _ = model.told()
    return len(points_in([(low, high) for _, low, high in unknowns]))


class CountingPen(Pen):
    """A pen that counts what is offered to it."""

    offers = 0

    def offer(self, step):
        self.offers += 1
        return super().offer(step)

    def suppose(self, fact):
        self.offers += 1
        return super().suppose(fact)


class BranchTest(unittest.TestCase):
    def take(self, worker, ledger, standing, room=None):
        """Take a turn and return what it returns, having checked that it did something unless it was settled."""
        before = (ledger.many(), standing.best())
        settled = is_settled(ledger, standing)
        returned = worker.turn(Pen(ledger, standing, room))
        self.assertIs(returned, not settled)
        after = (ledger.many(), standing.best())
        if settled:
            self.assertEqual(before, after)
        else:
            self.assertTrue(after[0] > before[0] or after[1] != before[1])
        if room is not None:
            self.assertLessEqual(after[0] - before[0], room)
        return returned

    def settle(self, ledger, standing, worker=None):
        """Take turns until the ledger is settled and return their number."""
        worker = worker or Branch()
        turns = 0
        while self.take(worker, ledger, standing):
            turns += 1
        return turns

    def check_answer(self, ledger, standing):
        check_answer(self, ledger, standing)

    def check_entries(self, ledger, worths=()):
        """Check [79] and [81] of everything that is written, worths being the values of points that were held."""
        model = ledger.model
        supposed = [model.improving_row(worth) for worth in worths] + [model.goal_row(worth) for worth in worths]
        known = set()
        for i in range(ledger.many()):
            fact, rule = ledger.step(i)[:2]
            self.assertNotIn((fact, rule == "suppose" or ledger.under(i)), known)
            known.add((fact, rule == "suppose" or ledger.under(i)))
            if rule == "suppose":
                one = fact[0] == "row" and len(fact[1]) == 1 and abs(fact[1][0][1]) == 1
                self.assertTrue(one or fact in supposed, fact)
            elif not ledger.is_open(i):
                self.assertTrue(is_contradiction(fact))


class SettledTest(BranchTest):
    def test_nothing_happens(self):
        for goal in (("max", ((0, 1), (1, -2)), 3), ("min", ((1, 1),), 0), ("max", (), 0)):
            ledger, standing = held(made([(0, 3), (0, 3)], d=("different", (0, 1))), goal)
            worker = Branch()
            self.settle(ledger, standing, worker)
            steps, best = list(ledger), standing.best()
            for room in (None, 0, 5):
                self.assertIs(worker.turn(Pen(ledger, standing, room)), False)
                self.assertIs(Branch().turn(Pen(ledger, standing, room)), False)
            self.assertEqual((list(ledger), standing.best()), (steps, best))

    def test_settled_by_others(self):
        ledger, standing = held(made([(0, 3), (0, 3)], d=("different", (0, 1))), ("max", ((0, 1), (1, 1)), 0))
        Linear().turn(Pen(ledger, standing))
        self.assertIs(is_settled(ledger, standing), False)
        standing.show((3, 2))
        ledger.put("r", ("row", ((0, 2), (1, 2)), "<=", 11))
        Linear().turn(Pen(ledger, standing))
        self.assertIs(Branch().turn(Pen(ledger, standing)), False)
        ledger, standing = held(made([(0, 3)], e=("element", 0, (9,), 0)))
        ledger.offer((NEVER, "look", "e", ()))
        self.assertIs(Branch().turn(Pen(ledger, standing)), False)


class FixedTest(BranchTest):
    def check(self, bounds, goal, bodies, expected):
        model = made(bounds, **bodies)
        ledger, standing = held(model, goal)
        turns = self.settle(ledger, standing)
        many = points_inside(model)
        self.assertLessEqual(turns, (many + 1) * (2 * many - 1))
        self.assertEqual(standing.best() and standing.best()[0], expected)
        self.check_answer(ledger, standing)
        return ledger, standing

    def test_one_point_inside(self):
        ledger, standing = held(made([(3, 3), (-2, -2)]), ("min", ((0, 1),), 1))
        worker = Branch()
        self.assertIs(self.take(worker, ledger, standing, 0), True)
        self.assertEqual((standing.best(), ledger.many()), ((4, (3, -2)), 0))
        self.assertIs(self.take(worker, ledger, standing), True)
        self.assertIs(self.take(worker, ledger, standing), False)
        self.check_answer(ledger, standing)
        ledger, standing = held(made([(3, 3), (3, 3)], d=("different", (0, 1))))
        self.assertEqual(self.settle(ledger, standing), 1)
        self.check_answer(ledger, standing)

    def test_no_solution(self):
        for bodies in (
            {"d": ("different", (0, 1)), "r": ("row", ((0, 1), (1, -1)), "=", 0)},
            {"a": ("any", ((0, "=", 9), (1, "<=", -1)))},
            {"w": ("when", (0, ">=", 0), ((1, 1),), ">=", 5)},
            {"e": ("element", 0, (9, 9), 1)},
            {"t": ("times", 0, 1, 1), "r": ("row", ((0, 1),), ">=", 2), "s": ("row", ((1, 1),), ">=", 1)},
            {"t": ("table", (1, 0), ((0, 9), (9, 0)))},
            {"r": ("row", ((0, 2), (1, 2)), "=", 5)},
            {"r": ("row", (), "<=", -1)},
        ):
            for goal in (("max", ((0, 1),), 0), ("min", (), 4)):
                ledger, _ = self.check([(0, 3), (0, 3)], goal, bodies, None)
                self.check_entries(ledger)

    def test_a_wide_box_that_one_fact_closes(self):
        terms = tuple((v, 1) for v in range(10))
        for body in (
            ("row", terms, ">=", 91), ("row", terms, "<=", -1), ("row", terms, "=", 91),
            ("any", ((0, "=", 10), (3, "<=", -1), (7, ">=", 10), (9, "=", -1))), ("any", ((4, "=", 12),)),
        ):
            ledger, standing = held(made([(0, 9)] * 10, b=body))
            self.assertEqual(self.settle(ledger, standing), 1)
            self.assertLessEqual(ledger.many(), 2)
            self.assertIs(accepts(ledger.model, ("none", tuple(ledger))), True)

    def test_one_solution(self):
        bodies = {"d": ("different", (0, 1, 2)), "r": ("row", ((0, 1), (1, 2), (2, 4)), "=", 14),
                  "t": ("table", (0, 2), ((2, 3), (3, 2)))}
        self.check([(0, 3)] * 3, ("min", ((1, 1),), 0), bodies, 0)

    def test_several_best_ones(self):
        bodies = {"r": ("row", ((0, 1), (1, 1)), "<=", 3)}
        self.check([(0, 3), (0, 3)], ("max", ((0, 1), (1, 1)), 5), bodies, 8)
        self.check([(0, 3), (0, 3)], ("min", ((0, 1), (1, 1)), 5), bodies, 5)
        self.check([(0, 3), (0, 3)], ("max", (), 5), bodies, 5)
        self.check([(0, 3), (0, 3)], ("min", (), -5), {}, -5)

    def test_a_goal_with_one_term(self):
        # Here the improving rows are of the form in which boxes are divided, too.
        for sense, c, worth in (("max", 1, 6), ("min", 1, 1), ("max", -1, -1), ("min", -1, -6), ("max", 5, 30)):
            self.check([(0, 7), (0, 7)], (sense, ((0, c),), 0), {"d": ("times", 0, 1, 1), "e": ("different", (0, 1)),
                       "r": ("row", ((0, 1), (1, 9)), "<=", 6), "s": ("row", ((0, 1),), ">=", 1)}, worth)

    def test_the_better_half_comes_first(self):
        for goal, best in (
            (("max", ((0, 2), (1, -1)), 0), (7, 0)), (("min", ((0, 2), (1, -1)), 0), (0, 7)),
            (("max", ((1, 3),), 0), (0, 7)), (("min", ((0, -1),), 0), (7, 0)), (("min", (), 0), (0, 0)),
        ):
            ledger, standing = held(made([(0, 7), (0, 7)]), goal)
            worker = Branch()
            while standing.best() is None:
                self.take(worker, ledger, standing)
            self.assertEqual(standing.best()[1], best)

    def test_great_bounds(self):
        bodies = {"r": ("row", ((0, 3), (1, 5)), "=", 41), "w": ("when", (0, ">=", 3), ((1, 1),), "<=", 1)}
        model = made([(-1000, 1000), (-1000, 1000)], **bodies)
        ledger, standing = held(model, ("max", ((1, 1),), 0))
        self.settle(ledger, standing)
        self.assertEqual(standing.best(), (607, (-998, 607)))
        steps = cut(ledger, entry_for(ledger, 607))
        self.assertIs(accepts(model, ("best", (-998, 607), steps)), True)


class RandomTest(BranchTest):
    def models(self, rng, many):
        for k in range(many):
            if k % 3 == 0:
                yield random_linear_model(rng, 3, ((-1, 3), (0, 3), (0, 2)))
            else:
                bounds = [(low, low + rng.randint(0, 3)) for low in (-1, 0, 0, 1)[:rng.randint(2, 4)]]
                yield random_model(rng, "abcd"[:rng.randint(0, 4)], bounds)

    def test_turns_and_answers(self):
        rng = random.Random(80)
        ends = {"none": 0, "best": 0}
        for model in self.models(rng, 150):
            ledger, standing = held(model, model.goal())
            worker = Branch()
            worths = []
            turns = 0
            while self.take(worker, ledger, standing):
                turns += 1
                if standing.best():
                    worths.append(standing.best()[0])
            many = points_inside(model)
            self.assertLessEqual(turns, (many + 1) * (2 * many - 1))
            self.check_answer(ledger, standing)
            self.check_entries(ledger, worths)
            ends["best" if worths else "none"] += 1
        self.assertGreater(min(ends.values()), 30, ends)

    def test_rooms_with_new_workers(self):
        rng = random.Random(81)
        stopped = 0
        for k, model in enumerate(self.models(rng, 60)):
            for replaced in (True, False):
                ledger, standing = held(model, model.goal())
                worker = Branch()
                going = True
                while going:
                    before = ledger.many()
                    try:
                        going = self.take(worker, ledger, standing, k % 5 + 1)
                    except Stopped:
                        stopped += 1
                        self.assertEqual(ledger.many(), before + k % 5 + 1)
                        worker = Branch() if replaced else worker
                self.check_answer(ledger, standing)
                self.check_entries(ledger, self.worths(ledger, standing))
        self.assertGreater(stopped, 100)

    def worths(self, ledger, standing):
        """Return all values that the model may have."""
        return range(-60, 60) if standing.best() else ()

    def test_new_workers_all_the_time(self):
        rng = random.Random(810)
        for model in self.models(rng, 30):
            ledger, standing = held(model, model.goal())
            while self.take(Branch(), ledger, standing):
                pass
            self.check_answer(ledger, standing)

    def test_between_edits_and_points_of_others(self):
        rng = random.Random(78)
        for _ in range(60):
            model = random_model(rng, "abc")
            ledger, standing = held(model, model.goal())
            worker = Branch()
            for _ in range(4):
                for _ in range(rng.randint(0, 6)):
                    self.take(worker, ledger, standing)
                random_edit(rng, ledger, "abcd")
                standing.refresh()
                self.take(worker, ledger, standing)
                for point in rng.sample(plain_solutions(ledger.model), min(2, len(plain_solutions(ledger.model)))):
                    standing.show(point)
                    self.take(worker, ledger, standing)
            self.settle(ledger, standing, worker)
            self.check_answer(ledger, standing)

    def test_with_turns_of_the_linear_worker_between(self):
        rng = random.Random(780)
        for _ in range(40):
            model = random_linear_model(rng)
            ledger, standing = held(model, model.goal())
            worker = Branch()
            while self.take(worker, ledger, standing):
                Linear().turn(Pen(ledger, standing))
            self.check_answer(ledger, standing)

    def test_one_worker_for_two_ledgers(self):
        rng = random.Random(781)
        for _ in range(30):
            pairs = []
            for _ in range(2):
                model = random_model(rng, "ab")
                pairs.append(held(model, model.goal()))
            pairs.append(held(pairs[0][0].model.copy(), pairs[0][0].model.goal()))
            worker = Branch()
            while any([self.take(worker, ledger, standing) for ledger, standing in pairs]):
                pass
            for ledger, standing in pairs:
                self.check_answer(ledger, standing)


class AnewTest(BranchTest):
    BODIES = {"r": ("row", ((0, 2), (1, 2), (2, 2)), "=", 7)}

    def begun(self):
        ledger, standing = held(made([(0, 3)] * 3, **self.BODIES), ("max", ((0, 1),), 0))
        worker = Branch()
        for _ in range(3):
            self.take(worker, ledger, standing)
        return ledger, standing, worker

    def test_after_an_edit(self):
        ledger, standing, worker = self.begun()
        ledger.withdraw("r")
        while standing.best() is None:
            self.take(worker, ledger, standing)
        self.settle(ledger, standing, worker)
        self.assertEqual(standing.best()[0], 3)
        # The same edit back, and wider bounds.
        ledger.put("r", ("row", ((0, 1), (1, 1)), "<=", 6))
        ledger.move(0, 0, 9)
        self.settle(ledger, standing, worker)
        self.assertEqual(standing.best()[0], 6)
        self.check_answer(ledger, standing)

    def test_after_a_point_of_somebody_else(self):
        model = made([(0, 3)] * 3, r=("row", ((0, 1), (1, 1), (2, 1)), "<=", 4))
        for k in range(8):
            ledger, standing = held(model, ("max", ((0, 1), (1, 2)), 0))
            worker = Branch()
            for _ in range(k):
                self.take(worker, ledger, standing)
            standing.show((0, 3, 0))
            self.assertIs(self.take(worker, ledger, standing), True)
            if standing.best() == (6, (0, 3, 0)):
                self.assertIn((row(-7, (0, -1), (1, -2)), "suppose"), list(ledger))
            self.settle(ledger, standing, worker)
            self.check_answer(ledger, standing)

    def test_a_point_that_is_no_solution_any_more(self):
        ledger, standing = held(made([(0, 3), (0, 3)]), ("max", ((0, 1), (1, 1)), 0))
        standing.show((2, 2))
        ledger.put("r", ("row", ((0, 1), (1, 1)), "<=", 3))
        # Without a refresh the point is still held, and the ledger shows that nothing is better.
        self.settle(ledger, standing)
        self.assertIsNotNone(entry_for(ledger, 4))
        standing.refresh()
        self.settle(ledger, standing)
        self.check_answer(ledger, standing)

    def test_what_was_offered_is_not_offered_again(self):
        ledger, standing = held(made([(0, 3)] * 6, r=("row", tuple((v, 2) for v in range(6)), "=", 17)))
        worker = Branch()
        offers = turns = 0
        going = True
        while going:
            pen = CountingPen(ledger, standing)
            going = worker.turn(pen)
            offers += pen.offers
            turns += 1
        self.assertGreater(turns, 20)
        self.assertLess(offers, 2 * ledger.many())

    def test_the_worker_finds_the_same_as_new_ones(self):
        ledger, standing = held(made([(0, 3)] * 3, **self.BODIES), ("max", ((0, 1),), 0))
        worker = Branch()
        turns = self.settle(ledger, standing, worker)
        other, better = held(made([(0, 3)] * 3, **self.BODIES), ("max", ((0, 1),), 0))
        anew = 0
        while self.take(Branch(), other, better):
            anew += 1
        self.assertEqual(list(ledger), list(other))
        self.assertEqual(turns, anew)


class LimitTest(BranchTest):
    def test_no_room(self):
        ledger, standing = held(made([(0, 3), (0, 3)]), ("max", ((0, 1),), 0))
        worker = Branch()
        for _ in range(3):
            self.assertRaises(Stopped, worker.turn, Pen(ledger, standing, 0))
            self.assertEqual((ledger.many(), standing.best()), (0, None))
        self.settle(ledger, standing, worker)
        self.check_answer(ledger, standing)

    def test_a_full_ledger(self):
        ledger, standing = held(made([(0, 3), (0, 3)]), ("max", ((0, 1),), 0))
        for _ in range(19999):
            ledger.offer((row(3, (1, 1)), "bound", 1))
        worker = Branch()
        self.assertIs(worker.turn(Pen(ledger, standing)), True)
        self.assertRaises(TooLarge, worker.turn, Pen(ledger, standing))
        self.assertRaises(TooLarge, worker.turn, Pen(ledger, standing))
        self.assertEqual(ledger.many(), 20000)

    def test_stopped_at_each_place_the_search_begins_anew(self):
        bodies = {"d": ("different", (0, 1)), "r": ("row", ((0, 1), (1, 1)), "<=", 3)}
        for written in range(1, 40):
            ledger, standing = held(made([(0, 3), (0, 3)], **bodies), ("max", ((0, 2), (1, 1)), 0))
            worker = Branch()
            left = written
            try:
                while left > 0:
                    pen = Pen(ledger, standing, left)
                    if not worker.turn(pen):
                        break
                    left -= pen.written()
                    self.assertGreaterEqual(left, 0)
                worker.turn(Pen(ledger, standing, 0))
            except Stopped:
                pass
            self.settle(ledger, standing, worker)
            self.check_answer(ledger, standing)
            self.check_entries(ledger, range(0, 12))


class KindsTest(BranchTest):
    def test_every_kind_of_body(self):
        rng = random.Random(800)
        kinds = {}
        for _ in range(150):
            body = random_body(rng, 3)
            model = made([(-1, 2), (0, 3), (0, 1)], b=body)
            ledger, standing = held(model, ("min", ((0, 1), (1, -2), (2, 3)), 0))
            self.settle(ledger, standing)
            self.check_answer(ledger, standing)
            kinds[body[0], standing.best() is None] = True
        self.assertGreaterEqual(len(kinds), 12, kinds)

    def test_opposite_suppositions(self):
        ledger, standing = held(made([(0, 3), (0, 3)], d=("different", (0, 1))), ("max", ((0, 1), (1, 1)), 0))
        self.settle(ledger, standing)
        facts = [step[0] for step in ledger if step[1] == "suppose"]
        cases = [step for step in ledger if step[1] == "cases"]
        self.assertTrue(cases)
        for _, _, _, _, s, t in cases:
            self.assertEqual(ledger.fact(t), negation(ledger.fact(s)))
        self.assertIn(row(-6, (0, -1), (1, -1)), facts)
        self.assertIn(row(5, (0, 1), (1, 1)), facts)


if __name__ == "__main__":
    unittest.main()
