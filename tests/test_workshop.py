"""Promises [123] to [128]: the workshop."""

import random
import unittest
from unittest import mock

from commonground.errors import BadModel, NoSuch, NotASolution, Refused, Taken, TooLarge, Unfinished
from commonground.facts.judge import accepts
from commonground.ledger.bounding import bound_of
from commonground.ledger.ledger import Ledger
from commonground.ledger.pen import Pen
from commonground.ledger.standing import Standing
from commonground.model.plain import best_plain
from commonground.workshop.workshop import Workshop
from tests.makers import NEVER, clause, made, random_edit, random_linear_model, random_model, row

NAMES = ("narrow", "learn", "linear", "cuts", "branch", "chart")
OTHERS = ("narrow", "linear", "cuts", "chart")


def workshop_of(model, goal=None):
    if goal is not None:
        model.aim(goal)
    return Workshop(model)


def state(workshop):
    """Return all that is known of the workshop from outside."""
    awake = [workshop.ledger.awake(i) for i in range(workshop.ledger.many())]
    return (list(workshop.ledger), awake, workshop.ledger.edits, workshop.ledger.model.told(), workshop.best())


class WorkshopTest(unittest.TestCase):
    def refused(self, error, what, call, *given, **named):
        with self.assertRaises(error) as caught:
            call(*given, **named)
        self.assertIs(type(caught.exception), error)
        if what is not None:
            self.assertEqual(caught.exception.what, what)

    def check_rest(self, workshop):
        """Check the answer and the certificate of a workshop at rest."""
        model = workshop.ledger.model
        self.assertIs(workshop.at_rest(), True)
        best = best_plain(model)
        certificate = workshop.certificate()
        self.assertIs(accepts(model, certificate), True)
        if best is None:
            self.assertEqual(workshop.answer(), ("none",))
            self.assertEqual(certificate[0], "none")
            self.assertIs(workshop.has_none(), True)
        else:
            self.assertEqual(workshop.answer(), ("best", best[0], workshop.best()[1]))
            self.assertEqual(certificate[:2], ("best", workshop.best()[1]))
            self.assertEqual(workshop.bound(), best[0])


class FieldsTest(WorkshopTest):
    def test_fields_and_the_copy_of_the_model(self):
        model = made([(0, 4), (0, 4)], d=("different", (0, 1)))
        workshop = Workshop(model)
        self.assertIs(type(workshop.ledger), Ledger)
        self.assertIs(type(workshop.standing), Standing)
        self.assertIs(workshop.standing.ledger, workshop.ledger)
        self.assertEqual(workshop.ledger.model.told(), model.told())
        workshop.withdraw("d")
        self.assertIs(model.has("d"), True)
        model.move(0, 1, 1)
        self.assertEqual(workshop.ledger.model.low(0), 0)

    def test_a_new_workshop(self):
        workshop = Workshop(made([(0, 4)]))
        self.assertEqual((workshop.best(), workshop.bound(), workshop.has_none()), (None, None, False))
        self.assertIs(workshop.at_rest(), False)
        self.refused(Unfinished, None, workshop.answer)
        self.refused(Unfinished, None, workshop.certificate)


class NamesTest(WorkshopTest):
    def test_no_name_of_a_worker(self):
        workshop = workshop_of(made([(0, 4)]), ("max", ((0, 1),), 0))
        before = state(workshop)
        for name in ("", "Narrow", "narrows", "settle", "branch "):
            self.refused(NoSuch, name, workshop.turn, name)
            self.refused(NoSuch, name, workshop.turn, name, room=3)
            self.refused(NoSuch, name, workshop.begin_anew, name)
            self.refused(NoSuch, name, workshop.settle, name)
            self.refused(NoSuch, name, workshop.run, name)
            self.refused(NoSuch, name, workshop.run, "chart", "learn", name, "zz", "branch", room=2)
            self.refused(NoSuch, name, workshop.run, name, "chart")
        self.assertEqual(state(workshop), before)

    def test_settle_takes_two_names(self):
        workshop = workshop_of(made([(0, 4)]), ("max", ((0, 1),), 0))
        before = state(workshop)
        for name in OTHERS:
            self.refused(NoSuch, name, workshop.settle, name)
        self.assertEqual(state(workshop), before)
        workshop.settle("learn")
        self.refused(NoSuch, "chart", workshop.settle, "chart")

    def test_all_six(self):
        workshop = workshop_of(made([(0, 4), (0, 4)]), ("max", ((0, 1), (1, 1)), 0))
        for name in NAMES:
            self.assertIn(workshop.turn(name), (True, False))
            self.assertIsNone(workshop.begin_anew(name))
        self.assertEqual(workshop.run(), [])
        self.assertIsNone(workshop.settle("branch"))


class PlainBoundTest(WorkshopTest):
    BOUNDS = [(-2, 4), (1, 3), (5, 5)]

    def check(self, goal, steps, bound):
        """Check what one turn of a worker that writes nothing leaves."""
        workshop = workshop_of(made(self.BOUNDS), goal)
        self.assertIs(workshop.turn("chart"), True)
        self.assertEqual((list(workshop.ledger), workshop.bound()), (steps, bound))
        self.assertEqual(workshop.run("chart", "chart"), [False, False])
        self.assertEqual(list(workshop.ledger), steps)

    def test_each_sign_and_both_senses(self):
        x_high, x_low = (row(4, (0, 1)), "bound", 0), (row(2, (0, -1)), "bound", 0)
        y_high, y_low = (row(3, (1, 1)), "bound", 1), (row(-1, (1, -1)), "bound", 1)
        for goal, first, second, total, bound in (
            (("max", ((0, 2), (1, 3)), 7), x_high, y_high, row(17, (0, 2), (1, 3)), 24),
            (("max", ((0, 2), (1, -3)), 7), x_high, y_low, row(5, (0, 2), (1, -3)), 12),
            (("min", ((0, 2), (1, 3)), 7), x_low, y_low, row(1, (0, -2), (1, -3)), 6),
            (("min", ((0, -2), (1, 3)), 7), x_high, y_low, row(5, (0, 2), (1, -3)), 2),
        ):
            self.check(goal, [first, second, (total, "sum", ((0, 2), (1, 3)))], bound)

    def test_a_goal_with_one_term(self):
        high = (row(4, (0, 1)), "bound", 0)
        # The sum is written also where the bound step states the same.
        self.check(("max", ((0, 1),), 0), [high, (row(4, (0, 1)), "sum", ((0, 1),))], 4)
        self.check(("max", ((0, 5),), 1), [high, (row(20, (0, 5)), "sum", ((0, 5),))], 21)
        self.check(("min", ((0, 1),), 0), [(row(2, (0, -1)), "bound", 0), (row(2, (0, -1)), "sum", ((0, 1),))], -2)
        self.check(("min", ((2, -3),), 0), [(row(5, (2, 1)), "bound", 2), (row(15, (2, 3)), "sum", ((0, 3),))], -15)

    def test_a_goal_without_terms(self):
        for sense in ("max", "min"):
            self.check((sense, (), 3), [(row(0), "sum", ())], 3)

    def test_a_fact_that_is_stated_already(self):
        workshop = workshop_of(made(self.BOUNDS, t=("table", (1,), ((1,), (3,)))), ("max", ((0, 2), (1, 3)), 0))
        workshop.offer((row(9, (2, 1)), "bound", 2))
        workshop.offer((row(3, (1, 1)), "look", "t", ()))
        workshop.turn("chart")
        self.assertEqual(list(workshop.ledger)[2:], [
            (row(4, (0, 1)), "bound", 0), (row(17, (0, 2), (1, 3)), "sum", ((2, 2), (1, 3))),
        ])
        # An entry under a supposition, one that is asleep, and one that states less do not count.
        workshop = workshop_of(made(self.BOUNDS, t=("table", (0,), ((4,),))), ("max", ((0, 2), (1, 3)), 0))
        workshop.offer((row(3, (1, 1)), "suppose"))
        workshop.offer((row(4, (1, 1)), "bound", 1))
        workshop.offer((row(4, (0, 1)), "look", "t", ()))
        workshop.withdraw("t")
        workshop.turn("chart")
        self.assertEqual(list(workshop.ledger)[3:], [
            (row(4, (0, 1)), "bound", 0), (row(3, (1, 1)), "bound", 1),
            (row(17, (0, 2), (1, 3)), "sum", ((3, 2), (4, 3))),
        ])

    def test_a_bound_is_known(self):
        workshop = workshop_of(made(self.BOUNDS), ("max", ((0, 2),), 0))
        workshop.offer((row(100, (0, 1)), "bound", 0))
        self.assertEqual(workshop.bound(), 200)
        workshop.turn("chart")
        self.assertEqual(workshop.ledger.many(), 1)
        workshop.aim(("min", ((0, 2),), 0))
        self.assertIsNone(workshop.bound())
        workshop.turn("chart")
        self.assertEqual(list(workshop.ledger)[1:],
                         [(row(2, (0, -1)), "bound", 0), (row(4, (0, -2)), "sum", ((1, 2),))])
        self.assertEqual(workshop.bound(), -4)

    def test_a_contradiction_is_known(self):
        workshop = workshop_of(made(self.BOUNDS, e=("element", 0, (9,), 1)), ("max", ((0, 2),), 0))
        workshop.offer((NEVER, "look", "e", ()))
        self.assertEqual([workshop.turn(name) for name in ("narrow", "learn", "branch", "chart")], [False] * 4)
        self.assertEqual((workshop.ledger.many(), workshop.bound()), (1, None))
        workshop.withdraw("e")
        workshop.turn("chart")
        self.assertEqual(workshop.ledger.many(), 3)

    def test_what_the_workshop_wrote_does_not_count(self):
        workshop = workshop_of(made(self.BOUNDS), ("max", ((0, 1), (1, 1)), 0))
        for name in ("narrow", "cuts"):
            fresh = workshop_of(made(self.BOUNDS), ("max", ((0, 1), (1, 1)), 0))
            self.assertIs(fresh.turn(name), False)
            self.assertEqual(fresh.ledger.many(), 3)
        self.assertIs(workshop.turn("linear"), False)
        self.assertEqual((workshop.ledger.many(), workshop.bound()), (3, 7))

    def test_after_moved_bounds(self):
        workshop = workshop_of(made(self.BOUNDS), ("max", ((0, 1), (1, 1)), 0))
        workshop.turn("chart")
        workshop.move(0, -2, 9)
        self.assertIsNone(workshop.bound())
        workshop.turn("chart")
        self.assertEqual(workshop.bound(), 12)
        # The bound that is narrower now still follows from what was written, so nothing is written.
        workshop.move(0, -2, 8)
        many = workshop.ledger.many()
        workshop.turn("narrow")
        self.assertEqual((workshop.ledger.many(), workshop.bound()), (many, 12))

    def test_a_ledger_that_is_nearly_full(self):
        workshop = workshop_of(made(self.BOUNDS), ("max", ((0, 1), (1, 1)), 0))
        for k in range(19998):
            workshop.offer((row(50 + k, (2, 1)), "bound", 2))
        before = state(workshop)
        self.refused(TooLarge, None, workshop.turn, "chart")
        self.refused(TooLarge, None, workshop.settle, "learn")
        self.assertEqual(state(workshop), before)
        workshop.aim(("max", ((0, 1),), 0))
        self.assertIs(workshop.turn("chart"), True)
        self.assertEqual(workshop.ledger.many(), 20000)
        self.refused(TooLarge, None, workshop.settle, "learn") if not workshop.at_rest() else self.check_rest(workshop)


class TurnTest(WorkshopTest):
    def model(self):
        return made([(0, 5), (0, 5), (0, 5)], r=("row", ((0, 2), (1, 2), (2, 2)), "=", 15), d=("different", (0, 1)))

    def test_rooms(self):
        for name in NAMES:
            for room in (0, 1, 2, 3, 7, None):
                workshop = workshop_of(self.model(), ("max", ((0, 3), (1, 1)), 0))
                workshop.turn("chart", room=0)
                for _ in range(6):
                    before = workshop.ledger.many(), workshop.best()
                    returned = workshop.turn(name, room=room)
                    after = workshop.ledger.many(), workshop.best()
                    self.assertIs(returned, after != before)
                    if room is not None:
                        self.assertLessEqual(after[0] - before[0], room)

    def test_the_room_is_not_that_of_the_plain_bound(self):
        workshop = workshop_of(self.model(), ("max", ((0, 3), (1, 1)), 0))
        self.assertIs(workshop.turn("learn", room=0), False)
        self.assertEqual(workshop.ledger.many(), 3)
        self.assertIs(workshop.turn("learn", room=1), True)
        self.assertEqual(workshop.ledger.many(), 4)

    def test_a_stopped_worker_is_put_away(self):
        workshop = workshop_of(made([(0, 3)] * 4, r=("row", tuple((v, 2) for v in range(4)), "=", 7)))
        for _ in range(4):
            workshop.turn("branch")
        many = workshop.ledger.many()
        self.assertIs(workshop.turn("branch", room=0), False)
        # A new worker begins its search anew, as one that is replaced does; so both write the same from here on.
        other = workshop_of(made([(0, 3)] * 4, r=("row", tuple((v, 2) for v in range(4)), "=", 7)))
        for _ in range(4):
            other.turn("branch")
        other.begin_anew("branch")
        self.assertEqual(list(other.ledger)[:many], list(workshop.ledger))
        for _ in range(10):
            self.assertEqual(workshop.turn("branch"), other.turn("branch"))
            self.assertEqual(list(workshop.ledger), list(other.ledger))

    def test_workers_remember_where_they_are(self):
        offers = []

        class CountingPen(Pen):
            def offer(self, step):
                offers.append(step)
                return super().offer(step)

        with mock.patch("commonground.workshop.workshop.Pen", CountingPen):
            workshop = workshop_of(made([(0, 3)] * 6, r=("row", tuple((v, 2) for v in range(6)), "=", 17)))
            workshop.settle("branch")
        self.check_rest(workshop)
        self.assertGreater(workshop.ledger.many(), 20)
        self.assertLess(len(offers), 2 * workshop.ledger.many())

    def test_run(self):
        workshop = workshop_of(self.model(), ("max", ((0, 3), (1, 1)), 0))
        other = workshop_of(self.model(), ("max", ((0, 3), (1, 1)), 0))
        names = ("chart", "narrow", "linear", "learn", "learn", "chart", "branch", "cuts")
        for room in (None, 0, 2):
            self.assertEqual(workshop.run(*names, room=room), [other.turn(name, room=room) for name in names])
            self.assertEqual(state(workshop), state(other))
        self.assertEqual(workshop.run(*names), [other.turn(name) for name in names])
        self.assertEqual(workshop.run(), [])

    def test_each_name_is_its_worker(self):
        rules = {}
        for name in NAMES:
            bodies = {"r": ("row", ((0, 2), (1, 2), (2, 2)), "<=", 7), "d": ("different", (0, 1))}
            workshop = workshop_of(made([(0, 5), (0, 5), (0, 5)], **bodies), ("max", ((0, 3), (1, 1)), 0))
            if name != "learn":
                workshop.turn("chart")
            many = workshop.ledger.many()
            for _ in range(4):
                workshop.turn(name)
            rules[name] = {step[1] for step in list(workshop.ledger)[many:]}
        self.assertEqual(rules["chart"], set())
        self.assertEqual(rules["narrow"], {"given", "unit"})
        self.assertLessEqual(rules["linear"] | rules["cuts"], {"given", "bound", "sum", "divide"})
        self.assertIn("sum", rules["linear"])
        self.assertIn("divide", rules["cuts"])
        self.assertIn("suppose", rules["branch"])
        self.assertIn("given", rules["learn"])


class WritingTest(WorkshopTest):
    def test_offers_and_points(self):
        model = made([(0, 4), (0, 4)], r=("row", ((0, 1), (1, 1)), "<=", 5))
        workshop = workshop_of(model, ("max", ((0, 1), (1, 2)), 0))
        self.assertEqual(workshop.offer((row(5, (0, 1), (1, 1)), "given", "r")), 0)
        self.assertEqual(workshop.offer((row(4, (1, 1)), "bound", 1)), 1)
        before = state(workshop)
        self.refused(Refused, None, workshop.offer, (row(3, (1, 1)), "bound", 1))
        self.refused(NotASolution, None, workshop.show, (4, 4))
        self.refused(NotASolution, None, workshop.show, (0,))
        self.assertEqual(state(workshop), before)
        self.assertIs(workshop.show((0, 3)), True)
        self.assertIs(workshop.show((2, 2)), False)
        self.assertIs(workshop.at_rest(), False)
        self.assertIs(workshop.show((1, 4)), True)
        self.assertEqual(workshop.best(), (9, (1, 4)))
        self.assertIsNone(workshop.bound())
        self.assertEqual(workshop.offer((row(9, (0, 1), (1, 2)), "sum", ((0, 1), (1, 1)))), 2)
        self.check_rest(workshop)
        self.assertEqual(workshop.certificate()[2], tuple(workshop.ledger))

    def test_edits_refresh_the_standing(self):
        workshop = workshop_of(made([(0, 4), (0, 4)]), ("max", ((0, 1),), 0))
        workshop.show((4, 4))
        self.assertIsNone(workshop.put("d", ("row", ((0, 1), (1, 1)), "<=", 9)))
        self.assertEqual(workshop.best(), (4, (4, 4)))
        workshop.put("e", ("different", (0, 1)))
        self.assertIsNone(workshop.best())
        workshop.show((4, 3))
        self.assertIsNone(workshop.withdraw("e"))
        self.assertEqual(workshop.best(), (4, (4, 3)))
        self.assertIsNone(workshop.aim(("min", ((0, 2), (1, 1)), 1)))
        self.assertEqual(workshop.best(), (12, (4, 3)))
        self.assertIsNone(workshop.move(0, 0, 3))
        self.assertIsNone(workshop.best())

    def test_failed_edits(self):
        workshop = workshop_of(made([(0, 4), (0, 4)], r=("row", ((0, 1),), "<=", 3)), ("max", ((0, 1),), 0))
        workshop.run("chart", "narrow", "learn")
        before = state(workshop)
        self.refused(Taken, "r", workshop.put, "r", ("different", (0, 1)))
        self.refused(BadModel, None, workshop.put, "R", ("different", (0, 1)))
        self.refused(BadModel, None, workshop.put, "s", ("different", (0, 2)))
        self.refused(NoSuch, "s", workshop.withdraw, "s")
        self.refused(NoSuch, 2, workshop.move, 2, 0, 1)
        self.refused(BadModel, None, workshop.move, 0, 3, 1)
        self.refused(BadModel, None, workshop.aim, ("best", (), 0))
        self.assertEqual(state(workshop), before)


class RestTest(WorkshopTest):
    def models(self, rng, many):
        for k in range(many):
            yield random_linear_model(rng, 3, ((-1, 3), (0, 3), (0, 2))) if k % 3 == 0 else random_model(rng, "abc")

    def test_settled_by_either_worker(self):
        rng = random.Random(125)
        for model in self.models(rng, 60):
            answers = []
            for name in ("learn", "branch"):
                workshop = Workshop(model)
                self.assertIsNone(workshop.settle(name))
                self.check_rest(workshop)
                answers.append(workshop.answer()[:2])
                before = state(workshop)
                workshop.settle(name)
                workshop.settle("learn" if name == "branch" else "branch")
                self.assertEqual(state(workshop), before)
            self.assertEqual(answers[0], answers[1])

    def test_settled_after_turns_of_all_others(self):
        rng = random.Random(1250)
        for model in self.models(rng, 40):
            workshop = Workshop(model)
            for _ in range(rng.randint(1, 3)):
                workshop.run(*rng.sample(NAMES, 5), room=rng.choice((None, 1, 4)))
            workshop.settle(rng.choice(("learn", "branch")))
            self.check_rest(workshop)

    def test_both_workers_in_turn(self):
        rng = random.Random(1251)
        for model in self.models(rng, 30):
            workshop = Workshop(model)
            while not workshop.at_rest():
                self.assertIn(True, workshop.run("learn", "branch", "narrow"))
            self.check_rest(workshop)

    def test_at_rest_by_the_bound(self):
        workshop = workshop_of(made([(0, 4), (0, 4)]), ("max", ((0, 1), (1, 1)), 0))
        self.assertIs(workshop.turn("chart"), True)
        # The plain bound is the value of the best point already.
        self.check_rest(workshop)
        self.assertEqual(workshop.certificate()[2], tuple(workshop.ledger))

    def test_unfinished_after_edits(self):
        workshop = workshop_of(made([(0, 4), (0, 4)], d=("different", (0, 1))), ("max", ((0, 1), (1, 1)), 0))
        workshop.settle("learn")
        self.check_rest(workshop)
        for edit in (lambda: workshop.withdraw("d"), lambda: workshop.move(0, 0, 9),
                     lambda: workshop.aim(("min", ((0, 1), (1, -1)), 0)),
                     lambda: workshop.put("r", ("row", ((0, 1), (1, 3)), "=", 7))):
            edit()
            self.assertIs(workshop.at_rest(), False)
            self.refused(Unfinished, None, workshop.answer)
            self.refused(Unfinished, None, workshop.certificate)
            workshop.settle("branch")
            self.check_rest(workshop)

    def test_a_constraint_withdrawn_and_put_back(self):
        rng = random.Random(1252)
        for model in self.models(rng, 40):
            if not model.labels():
                continue
            workshop = Workshop(model)
            workshop.settle("learn")
            answer = workshop.answer()[:2]
            label = rng.choice(model.labels())
            workshop.withdraw(label)
            workshop.settle("branch")
            self.check_rest(workshop)
            workshop.put(label, model.body(label))
            workshop.settle("learn")
            self.check_rest(workshop)
            self.assertEqual(workshop.answer()[:2], answer)

    def test_the_lowest_entries_are_cut(self):
        workshop = workshop_of(made([(0, 4)], e=("element", 0, (9,), 0)), ("max", ((0, 1),), 0))
        first = workshop.offer((row(4, (0, 1)), "bound", 0))
        workshop.offer((NEVER, "look", "e", ()))
        workshop.offer((row(-1), "look", "e", ()))
        self.assertEqual(workshop.certificate(), ("none", ((NEVER, "look", "e", ()),)))
        workshop.withdraw("e")
        workshop.show((4,))
        workshop.offer((row(4, (0, 1)), "sum", ((first, 1),)))
        self.assertEqual(workshop.certificate(), ("best", (4,), ((row(4, (0, 1)), "bound", 0),)))

    def test_a_better_point_than_the_bound_of_others(self):
        workshop = workshop_of(made([(0, 4)], t=("table", (0,), ((1,), (3,)))), ("max", ((0, 2),), 0))
        workshop.offer((clause((0, "<=", 3)), "look", "t", ()))
        self.assertEqual((workshop.bound(), bound_of(workshop.ledger)), (6, 6))
        workshop.show((1,))
        self.assertIs(workshop.at_rest(), False)
        workshop.show((3,))
        self.check_rest(workshop)

    def test_between_edits(self):
        rng = random.Random(1253)
        for model in self.models(rng, 25):
            workshop = Workshop(model)
            for _ in range(4):
                workshop.settle(rng.choice(("learn", "branch")))
                self.check_rest(workshop)
                random_edit(rng, workshop, "abcd")


if __name__ == "__main__":
    unittest.main()
