"""Promises [1] to [5], [129] and [130]: the whole program, on long days in the workshop."""

import ast
import copy
import pathlib
import random
import unittest

from commonground.conflict.decide import decide
from commonground.conflict.survey import survey
from commonground.diagram.build import diagram_of
from commonground.diagram.reading import best_of
from commonground.errors import GroundError, NoSuch, NotASolution, Refused, Taken, TooLarge
from commonground.facts.fact import fact_holds
from commonground.facts.judge import accepts, first_bad, unders
from commonground.ledger.certificate import carry, carry_body, compose
from commonground.model.model import Model
from commonground.model.plain import best_plain
from commonground.text.certificates import certificate_text, read_certificate
from commonground.text.models import model_text, read_model
from commonground.workshop.workshop import Workshop
from tests.makers import made, plain_solutions, random_body, random_linear_model, random_model, random_step

NAMES = ("narrow", "learn", "linear", "cuts", "branch", "chart")
PACKAGE = pathlib.Path(__file__).resolve().parent.parent / "commonground"


class Day:
    """A day in a workshop, whose model has three unknowns, and what is true of its model by plain looking."""

    def __init__(self, test, rng, model):
        self.test = test
        self.rng = rng
        self.workshop = Workshop(model)
        self.told = None
        self.seen = {}

    def model(self):
        return self.workshop.ledger.model

    def look(self):
        """Look plainly at the model if it has changed, and return its best value and point, or None."""
        if self.model().told() != self.told:
            self.told = self.model().told()
            self.best = best_plain(self.model())
            self.solutions = plain_solutions(self.model())
        return self.best

    def turn(self):
        name = self.rng.choice(NAMES)
        room = self.rng.choice((None, None, 0, 1, 2, 3, 5))
        before = self.workshop.ledger.many(), self.workshop.best()
        returned = self.workshop.turn(name, room=room)
        after = self.workshop.ledger.many(), self.workshop.best()
        if returned:
            self.test.assertNotEqual(after, before)
        else:
            # What was written then is the plain bound alone.
            written = [step[1] for step in list(self.workshop.ledger)[before[0]:]]
            self.test.assertEqual((after[1], set(written) - {"bound", "sum"}), (before[1], set()))

    def offer(self):
        if self.model().labels():
            step = random_step(self.rng, self.model(), list(self.workshop.ledger))
            try:
                number = self.workshop.offer(step)
                self.test.assertEqual(number, self.workshop.ledger.many() - 1)
                self.test.assertEqual(self.workshop.ledger.step(number), step)
            except Refused:
                self.seen["refused"] = True

    def show(self):
        point = tuple(self.rng.randint(-2, 3) for _ in range(3))
        try:
            self.workshop.show(point)
            self.test.assertIs(self.model().is_solution(point), True)
        except NotASolution:
            self.test.assertIs(self.model().is_solution(point), False)

    def edit(self):
        kind = self.rng.choice(("put", "put", "withdraw", "move", "aim"))
        label = self.rng.choice("abcde")
        before = copy.deepcopy((list(self.workshop.ledger), self.model().told(), self.workshop.best()))
        try:
            if kind == "put":
                self.workshop.put(label, random_body(self.rng, 3))
            elif kind == "withdraw":
                self.workshop.withdraw(label)
            elif kind == "move":
                low = self.rng.randint(-2, 1)
                self.workshop.move(self.rng.randrange(4), low, low + self.rng.randint(0, 3))
            else:
                terms = tuple((v, self.rng.choice((-2, 1, 3))) for v in range(3) if self.rng.random() < 0.7)
                self.workshop.aim((self.rng.choice(("max", "min")), terms, self.rng.randint(-3, 3)))
        except (NoSuch, Taken):
            self.test.assertEqual((list(self.workshop.ledger), self.model().told(), self.workshop.best()), before)

    def check(self):
        """Check what is promised at every moment."""
        best = self.look()
        workshop = self.workshop
        if workshop.best() is not None:
            worth, point = workshop.best()
            self.test.assertIs(self.model().is_solution(point), True)
            self.test.assertEqual(self.model().worth(point), worth)
        if workshop.bound() is not None and best is not None:
            self.test.assertFalse(self.model().is_better(best[0], workshop.bound()))
        if workshop.has_none():
            self.test.assertIsNone(best)
        if workshop.at_rest():
            expected = ("none",) if best is None else ("best", best[0], workshop.best()[1])
            self.test.assertEqual(workshop.answer(), expected)
            self.test.assertIs(accepts(self.model(), workshop.certificate()), True)

    def check_entries(self):
        """Check [47]: awake entries hold at the solutions at which their suppositions do."""
        ledger = self.workshop.ledger
        for i in range(ledger.many()):
            if ledger.awake(i):
                for point in self.solutions:
                    if all(fact_holds(ledger.fact(s), point) for s in ledger.under(i)):
                        self.test.assertTrue(fact_holds(ledger.fact(i), point))

    def check_no_worse(self, bound, best):
        """Check that neither the bound nor the value of the point held became worse since then."""
        if bound is not None and not self.workshop.has_none():
            self.test.assertFalse(self.model().is_better(self.workshop.bound(), bound))
        if best is not None:
            self.test.assertFalse(self.model().is_better(best[0], self.workshop.best()[0]))


class DayTest(unittest.TestCase):
    def live(self, rng, model, deeds):
        day = Day(self, rng, model)
        for _ in range(deeds):
            bound, best = day.workshop.bound(), day.workshop.best()
            edits = day.workshop.ledger.edits
            kind = rng.random()
            if kind < 0.6:
                day.turn()
            elif kind < 0.75:
                day.offer()
            elif kind < 0.85:
                day.show()
            elif kind < 0.95:
                day.edit()
            else:
                day.workshop.begin_anew(rng.choice(NAMES))
            if day.workshop.ledger.edits == edits:
                day.check_no_worse(bound, best)
            day.check()
        return day

    def test_long_days(self):
        rng = random.Random(129)
        ends = {}
        for k in range(60):
            model = random_linear_model(rng, 2, ((-1, 3), (0, 2), (0, 2))) if k % 3 == 0 else random_model(rng, "abc")
            day = self.live(rng, model, 60)
            day.look()
            day.check_entries()
            day.workshop.settle(rng.choice(("learn", "branch")))
            day.check()
            self.assertIs(day.workshop.at_rest(), True)
            ends[day.workshop.answer()[0]] = ends.get(day.workshop.answer()[0], 0) + 1
        self.assertGreater(min(ends["none"], ends["best"]), 10, ends)

    def test_two_workshops_agree(self):
        rng = random.Random(1290)
        for k in range(30):
            model = random_linear_model(rng) if k % 3 == 0 else random_model(rng, "abcd")
            first, second = Workshop(model), Workshop(model)
            while not first.at_rest():
                first.run(*rng.sample(NAMES, 6), room=rng.choice((None, 2, 5)))
                first.turn("learn")
            second.settle("branch")
            self.assertEqual(first.answer()[:2], second.answer()[:2])
            for workshop in (first, second):
                self.assertIs(accepts(model, workshop.certificate()), True)
            if first.answer()[0] == "best":
                self.assertEqual(best_of(diagram_of(model), model.goal())[0], first.answer()[1])


class CertificateTest(unittest.TestCase):
    def settled(self, rng, k):
        model = random_linear_model(rng, 3, ((-1, 3), (0, 3), (0, 2))) if k % 3 == 0 else random_model(rng, "abc")
        workshop = Workshop(model)
        workshop.run("narrow", "linear", "cuts", "chart", "narrow")
        workshop.settle(rng.choice(("learn", "branch")))
        return model, workshop

    def test_written_and_read_again(self):
        rng = random.Random(1291)
        for k in range(60):
            model, workshop = self.settled(rng, k)
            certificate = workshop.certificate()
            again = read_model(model_text(model))
            self.assertEqual(again.told(), model.told())
            text = certificate_text(model, certificate)
            read = read_certificate(again, text)
            self.assertEqual((read, certificate_text(again, read)), (certificate, text))
            self.assertIs(accepts(again, read), True)

    def test_carried_to_another_model(self):
        rng = random.Random(1292)
        for k in range(60):
            model, workshop = self.settled(rng, k)
            unknowns, constraints, goal = model.told()
            other = Model(tuple(rng.sample(unknowns, 3)) + (("more", 0, 1),))
            for label, body in constraints:
                other.put(label, carry_body(body, model, other))
            steps = carry(workshop.certificate()[-1], model, other)
            self.assertIsNone(first_bad(other, steps))
            self.assertEqual(unders(steps)[-1], ())
            if workshop.answer() == ("none",):
                self.assertIs(accepts(other, ("none", steps)), True)
                self.assertEqual(plain_solutions(other), [])

    def test_composed_with_a_consequence(self):
        model = made([(0, 5), (0, 5)], a=("row", ((0, 1), (1, 1)), "<=", 5), b=("row", ((0, 1), (1, -1)), "<=", 0))
        model.aim(("max", ((0, 1),), 0))
        helper = ((("row", ((0, 1), (1, 1)), 5), "given", "a"), (("row", ((0, 1), (1, -1)), 0), "given", "b"),
                  (("row", ((0, 2),), 5), "sum", ((0, 1), (1, 1))))
        with_one_more = model.copy()
        with_one_more.put("c", ("row", ((0, 2),), "<=", 5))
        workshop = Workshop(with_one_more)
        workshop.settle("learn")
        _, point, steps = workshop.certificate()
        self.assertIs(accepts(model, ("best", point, steps)), False)
        self.assertIs(accepts(model, ("best", point, compose(helper, "c", steps))), True)

    def test_evidence_in_the_workshop(self):
        rng = random.Random(1293)
        kinds = {}
        for _ in range(60):
            model = random_model(rng, "abcd")
            told = decide(model, model.labels())
            workshop = Workshop(model)
            if told[0] == "none":
                # Anybody may write: what was decided is offered step by step, and the workshop is at rest.
                for step in told[1]:
                    workshop.offer(step)
                self.assertEqual(workshop.answer(), ("none",))
                conflicts, _ = survey(model, tuple(model.labels()))
                self.assertTrue(all(accepts(model, certificate) for _, certificate in conflicts))
            else:
                workshop.show(told[1])
                workshop.settle("learn")
                self.assertEqual(workshop.answer()[0], "best")
            kinds[told[0]] = True
        self.assertEqual(len(kinds), 2)


class NothingElseTest(unittest.TestCase):
    def test_no_clock_no_random_numbers_no_files(self):
        allowed = {"commonground", "heapq", "math", "itertools", "collections", "__future__"}
        for path in PACKAGE.rglob("*.py"):
            for node in ast.walk(ast.parse(path.read_text(encoding="utf-8"))):
                self.assertNotIsInstance(node, ast.Import, path)
                if isinstance(node, ast.ImportFrom):
                    self.assertIn(node.module.split(".")[0], allowed, path)
                if isinstance(node, ast.Name):
                    self.assertNotIn(node.id, ("open", "print", "input", "id", "hash", "eval", "exec"), path)

    def test_the_same_is_done_again(self):
        for seed in range(5):
            days = []
            for _ in range(2):
                rng = random.Random(seed)
                workshop = Workshop(random_model(rng, "abc"))
                for _ in range(30):
                    workshop.turn(rng.choice(NAMES), room=rng.choice((None, 1, 3)))
                days.append((list(workshop.ledger), workshop.best(), workshop.bound()))
            self.assertEqual(days[0], days[1])

    def test_errors(self):
        self.assertTrue(issubclass(GroundError, ValueError))
        workshop = Workshop(made([(0, 1)]))
        for call in (lambda: workshop.turn("nobody"), lambda: workshop.answer(), lambda: workshop.show((7,)),
                     lambda: workshop.offer((("row", (), -1), "sum", ())), lambda: workshop.withdraw("zz"),
                     lambda: diagram_of(made([(0, 1)] * 2)) and survey(made([(0, 1)]), ("z",) * 11)):
            self.assertRaises(GroundError, call)
        self.assertRaises(TooLarge, survey, made([(0, 1)]), ("z",) * 11)


if __name__ == "__main__":
    unittest.main()
