"""Promise [49]: pens."""

import unittest

from commonground.errors import Refused, Stopped, TooLarge
from commonground.ledger.ledger import Ledger
from commonground.ledger.pen import Pen
from commonground.ledger.standing import Standing
from commonground.model.model import Model
from tests.makers import clause, row

LOW = row(3, (0, 1))
HIGH = row(-4, (0, -1))
GIVEN = (row(5, (0, 1), (1, 1)), "given", "less")
BOUND = (row(4, (0, 1)), "bound", 0)


class PenTest(unittest.TestCase):
    def setUp(self):
        model = Model((("x", 0, 4), ("y", 0, 4)))
        model.put("less", ("row", ((0, 1), (1, 1)), "<=", 5))
        self.ledger = Ledger(model)
        self.standing = Standing(self.ledger)

    def pen(self, *room):
        return Pen(self.ledger, self.standing, *room)

    def check(self, pen, many, written):
        self.assertEqual((self.ledger.many(), pen.written()), (many, written))


class SharingTest(PenTest):
    def test_fields(self):
        for pen in (self.pen(), self.pen(None), self.pen(3), Pen(self.ledger, self.standing, room=1)):
            self.assertIs(pen.ledger, self.ledger)
            self.assertIs(pen.standing, self.standing)
            self.assertEqual(pen.written(), 0)


class OfferTest(PenTest):
    def test_new_entries(self):
        pen = self.pen()
        self.assertEqual(pen.offer(GIVEN), 0)
        self.assertEqual(pen.offer(BOUND), 1)
        self.check(pen, 2, 2)
        self.assertEqual(list(self.ledger), [GIVEN, BOUND])

    def test_an_open_entry_with_an_equal_fact_stands_already(self):
        self.ledger.offer(BOUND)
        self.ledger.offer(GIVEN)
        self.ledger.offer(GIVEN)
        pen = self.pen()
        self.assertEqual(pen.offer(GIVEN), 1)
        self.assertEqual(pen.offer((GIVEN[0], "weaken", 2)), 1)
        self.check(pen, 3, 0)
        # A fact that is only implied is another fact.
        self.assertEqual(pen.offer((row(6, (0, 1), (1, 1)), "weaken", 1)), 3)
        self.check(pen, 4, 1)

    def test_even_a_step_that_does_not_follow(self):
        self.ledger.offer(GIVEN)
        pen = self.pen()
        self.assertEqual(pen.offer((GIVEN[0], "given", "nolabel")), 0)
        self.assertEqual(pen.offer((GIVEN[0], "divide", 0, 0)), 0)
        self.check(pen, 1, 0)

    def test_but_all_entries_to_which_it_refers_exist(self):
        self.ledger.offer(GIVEN)
        pen = self.pen()
        for i in (1, 2, -1, -2, 10 ** 30):
            for step in ((GIVEN[0], "weaken", i), (GIVEN[0], "unit", (0, i)), (GIVEN[0], "cases", 0, 0, 0, i)):
                with self.assertRaises(Refused):
                    pen.offer(step)
        self.check(pen, 1, 0)

    def test_they_may_be_asleep(self):
        self.ledger.offer(GIVEN)
        self.ledger.offer((row(6, (0, 1), (1, 1)), "weaken", 0))
        self.ledger.offer(BOUND)
        self.ledger.withdraw("less")
        pen = self.pen()
        self.assertEqual(pen.offer((BOUND[0], "weaken", 0)), 2)
        self.check(pen, 3, 0)
        with self.assertRaises(Refused):
            pen.offer((row(7, (0, 1), (1, 1)), "weaken", 0))

    def test_entries_that_are_asleep_do_not_count(self):
        self.ledger.put("also", ("row", ((0, 1), (1, 1)), "<=", 5))
        self.ledger.offer(GIVEN)
        self.ledger.offer((GIVEN[0], "given", "also"))
        self.ledger.withdraw("less")
        pen = self.pen()
        self.assertEqual(pen.offer((GIVEN[0], "given", "also")), 1)
        self.ledger.withdraw("also")
        self.ledger.put("less", ("row", ((0, 1), (1, 1)), "=", 5))
        self.assertEqual(pen.offer(GIVEN), 0)
        self.ledger.withdraw("less")
        with self.assertRaises(Refused):
            pen.offer(GIVEN)
        self.check(pen, 2, 0)

    def test_entries_under_the_same_suppositions(self):
        for fact in (LOW, HIGH, clause((1, "=", 1))):
            self.ledger.offer((fact, "suppose"))
        fact = row(8, (0, 2))
        first = self.ledger.offer((fact, "weaken", 0))
        pen = self.pen()
        self.assertEqual(pen.offer((fact, "weaken", 0)), first)
        self.assertEqual(pen.offer((fact, "unit", (0,))), first)
        self.check(pen, 4, 0)
        # Under others, under more, under fewer: these are new.
        self.assertEqual(pen.offer((fact, "unit", (0, 2))), 4)
        self.assertEqual(pen.offer((fact, "unit", (2, 0))), 4)
        self.assertEqual(pen.offer((fact, "weaken", 0)), first)
        self.assertEqual(pen.offer((fact, "look", "less", ())), 5)
        self.check(pen, 6, 2)
        # Now an open entry stands there, but a lower one is under the same suppositions.
        self.assertEqual(pen.offer((fact, "weaken", 0)), first)
        self.assertEqual(pen.offer((fact, "unit", (0, 2))), 4)
        self.assertEqual(pen.offer((fact, "unit", (1,))), 5)
        self.assertEqual(pen.offer((fact, "unit", (2, 1))), 5)
        self.check(pen, 6, 2)

    def test_the_lowest_number(self):
        self.ledger.offer((LOW, "suppose"))
        self.ledger.offer((row(9, (0, 1)), "unit", ()))
        self.ledger.offer((row(9, (0, 1)), "weaken", 0))
        pen = self.pen()
        self.assertEqual(pen.offer((row(9, (0, 1)), "weaken", 0)), 1)
        self.assertEqual(pen.offer((row(9, (0, 1)), "bound", 0)), 1)
        self.check(pen, 3, 0)

    def test_a_supposition_that_states_what_is_concluded(self):
        self.ledger.offer((LOW, "suppose"))
        pen = self.pen()
        self.assertEqual(pen.offer((LOW, "weaken", 0)), 0)
        self.check(pen, 1, 0)

    def test_what_cases_are_under(self):
        self.ledger.offer((LOW, "suppose"))
        self.ledger.offer((HIGH, "suppose"))
        self.ledger.offer((clause((1, "=", 1)), "suppose"))
        fact = row(8, (0, 2))
        under_both = self.ledger.offer((fact, "unit", (0, 2)))
        under_last = self.ledger.offer((fact, "unit", (2,)))
        pen = self.pen()
        # The first case leaves out only the supposition 0, the second one only the supposition 1.
        self.assertEqual(pen.offer((fact, "cases", under_both, under_both, 0, 1)), under_both)
        self.assertEqual(pen.offer((fact, "cases", under_last, under_both, 0, 1)), under_both)
        self.assertEqual(pen.offer((fact, "cases", under_both, under_last, 0, 1)), under_last)
        self.check(pen, 5, 0)

    def test_offered_suppositions(self):
        pen = self.pen()
        self.assertEqual(pen.offer((LOW, "suppose")), 0)
        # Another supposition is under itself, so it does not count.
        self.assertEqual(pen.offer((LOW, "suppose")), 1)
        self.ledger.offer((LOW, "weaken", 0))
        self.assertEqual(pen.offer((LOW, "suppose")), 3)
        self.ledger.move(0, 0, 3)
        self.ledger.offer((LOW, "bound", 0))
        self.assertEqual(pen.offer((LOW, "suppose")), 4)
        self.check(pen, 5, 3)

    def test_refused(self):
        pen = self.pen()
        with self.assertRaises(Refused):
            pen.offer((row(3, (0, 1)), "bound", 0))
        self.check(pen, 0, 0)


class RoomTest(PenTest):
    def test_no_room(self):
        self.ledger.offer(BOUND)
        self.ledger.offer((LOW, "suppose"))
        pen = self.pen(0)
        self.assertEqual(pen.offer(BOUND), 0)
        self.assertEqual(pen.suppose(LOW), 1)
        for offered in (lambda: pen.offer(GIVEN), lambda: pen.suppose(HIGH), lambda: pen.offer((LOW, "suppose"))):
            with self.assertRaises(Stopped):
                offered()
        self.check(pen, 2, 0)

    def test_room_for_one(self):
        pen = self.pen(1)
        self.assertEqual(pen.offer(BOUND), 0)
        self.check(pen, 1, 1)
        self.assertEqual(pen.offer(BOUND), 0)
        with self.assertRaises(Stopped):
            pen.offer(GIVEN)
        with self.assertRaises(Stopped):
            pen.suppose(LOW)
        self.check(pen, 1, 1)
        self.assertEqual(pen.offer(BOUND), 0)

    def test_suppositions_use_the_room(self):
        pen = self.pen(2)
        pen.suppose(LOW)
        pen.suppose(LOW)
        self.check(pen, 1, 1)
        pen.offer(GIVEN)
        with self.assertRaises(Stopped):
            pen.suppose(HIGH)
        self.check(pen, 2, 2)

    def test_stopped_comes_ahead_of_refused(self):
        pen = self.pen(0)
        for step in ((row(3, (0, 1)), "bound", 0), (row(3, (0, 1)), "weaken", 7)):
            with self.assertRaises(Stopped):
                pen.offer(step)
        with self.assertRaises(Stopped):
            pen.suppose(("any", ()))

    def test_what_is_refused_uses_no_room(self):
        pen = self.pen(1)
        for _ in range(3):
            with self.assertRaises(Refused):
                pen.offer((row(3, (0, 1)), "bound", 0))
        self.assertEqual(pen.offer(BOUND), 0)
        self.check(pen, 1, 1)

    def test_entries_of_others_do_not_use_the_room(self):
        pen = self.pen(1)
        self.ledger.offer(BOUND)
        other = self.pen(1)
        other.offer(GIVEN)
        self.assertEqual(pen.written(), 0)
        self.assertEqual(pen.suppose(LOW), 2)
        self.check(pen, 3, 1)

    def test_without_a_room(self):
        pen = self.pen()
        for k in range(50):
            self.assertEqual(pen.offer((row(4 + k, (0, 1)), "bound", 0)), k)
        self.check(pen, 50, 50)

    def test_a_full_ledger(self):
        for _ in range(20000):
            self.ledger.offer(BOUND)
        pen = self.pen()
        with self.assertRaises(TooLarge):
            pen.offer(GIVEN)
        with self.assertRaises(TooLarge):
            pen.suppose(LOW)
        with self.assertRaises(Stopped):
            self.pen(0).offer(GIVEN)
        self.assertEqual(pen.offer(BOUND), 0)
        self.check(pen, 20000, 0)


class SupposeTest(PenTest):
    def test_new_and_old(self):
        pen = self.pen()
        self.assertEqual(pen.suppose(LOW), 0)
        self.assertEqual(pen.suppose(HIGH), 1)
        self.assertEqual(pen.suppose(LOW), 0)
        self.check(pen, 2, 2)
        self.assertEqual(list(self.ledger), [(LOW, "suppose"), (HIGH, "suppose")])
        self.assertEqual(self.pen().suppose(HIGH), 1)

    def test_the_lowest_number(self):
        for _ in range(3):
            self.ledger.offer((LOW, "suppose"))
        self.assertEqual(self.pen().suppose(LOW), 0)

    def test_only_suppositions_count(self):
        self.ledger.offer(BOUND)
        self.ledger.offer((BOUND[0], "weaken", 0))
        pen = self.pen()
        self.assertEqual(pen.suppose(BOUND[0]), 2)
        self.assertEqual(pen.suppose(BOUND[0]), 2)
        self.check(pen, 3, 1)

    def test_after_edits(self):
        pen = self.pen()
        pen.suppose(LOW)
        self.ledger.withdraw("less")
        self.ledger.move(0, -3, 3)
        self.assertEqual(pen.suppose(LOW), 0)

    def test_refused(self):
        pen = self.pen()
        for fact in (("any", ()), clause((0, "=", 1), (1, "=", 1)), row(3, (2, 1)), clause((-1, "=", 1))):
            with self.assertRaises(Refused):
                pen.suppose(fact)
        self.check(pen, 0, 0)


if __name__ == "__main__":
    unittest.main()
