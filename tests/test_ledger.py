"""Promises [43] to [47]: the ledger."""

import random
import unittest

from commonground.errors import BadModel, NoSuch, Refused, Taken, TooLarge
from commonground.facts.judge import refers_to, unders
from commonground.facts.rules import follows
from commonground.ledger.ledger import Ledger
from commonground.model.model import Model
from tests import naive
from tests.makers import NEVER, clause, plain_solutions, random_body, random_edit, random_fact, row


def plain_model():
    model = Model((("x", 0, 4), ("y", 0, 4), ("z", 0, 1)))
    model.put("less", ("row", ((0, 1), (1, 1)), "<=", 5))
    model.put("diff", ("different", (0, 1)))
    model.put("when", ("when", (2, "=", 1), ((0, 1),), "<=", 1))
    return model


STEPS = (
    (row(5, (0, 1), (1, 1)), "given", "less"),                      # 0
    (row(4, (0, 1)), "bound", 0),                                   # 1
    (row(9, (0, 2), (1, 1)), "sum", ((0, 1), (1, 1))),              # 2
    (clause((2, "=", 1)), "suppose"),                               # 3
    (row(1, (0, 1)), "then", "when", 3),                            # 4
    (clause((2, "!=", 1)), "suppose"),                              # 5
    (clause((0, "!=", 2), (1, "!=", 2)), "apart", "diff"),          # 6
    (clause((0, "<=", 4)), "look", "less", ()),                     # 7
    (clause((0, "<=", 1), (1, "<=", 3)), "unit", (0,)),             # 8
    (row(9, (0, 2), (1, 1)), "weaken", 2),                          # 9
    (row(6, (0, 1), (1, 1)), "weaken", 0),                          # 10
    (clause((0, "<=", 4), (2, "=", 1)), "cases", 4, 7, 3, 5),       # 11
)


def filled(model=None, steps=STEPS):
    ledger = Ledger(model or plain_model())
    for step in steps:
        ledger.offer(step)
    return ledger


def expected_awake(model, steps):
    """Judge the steps one by one as [45] says."""
    entries = []
    for step in steps:
        entries.append(step if follows(model, entries, step) else None)
    return [entry is not None for entry in entries]


class LedgerTest(unittest.TestCase):
    def awake(self, ledger):
        return [ledger.awake(i) for i in range(ledger.many())]

    def check_awake(self, ledger, *asleep):
        """Check that just these entries are asleep, and that a judge who is offered all steps says the same."""
        self.assertEqual([i for i, awake in enumerate(self.awake(ledger)) if not awake], list(asleep))
        self.assertEqual(self.awake(ledger), expected_awake(ledger.model, list(ledger)))


class MakingTest(LedgerTest):
    def test_a_new_ledger(self):
        model = plain_model()
        ledger = Ledger(model)
        self.assertEqual((ledger.many(), ledger.edits, list(ledger), ledger.open_entries()), (0, 0, [], []))
        self.assertEqual(ledger.model.told(), model.told())

    def test_it_keeps_a_copy(self):
        model = plain_model()
        ledger = filled(model)
        before = model.told()
        model.withdraw("less")
        self.assertEqual(ledger.model.told(), before)
        self.check_awake(ledger)
        model = plain_model()
        ledger = Ledger(model)
        ledger.withdraw("less")
        ledger.move(0, 1, 2)
        self.assertEqual(model.told(), before)


class OfferTest(LedgerTest):
    def test_numbers_in_order(self):
        ledger = Ledger(plain_model())
        for number, step in enumerate(STEPS):
            self.assertEqual(ledger.offer(step), number)
            self.assertIs(ledger.awake(number), True)
        self.assertEqual(ledger.many(), len(STEPS))
        self.assertEqual(ledger.edits, 0)

    def test_the_same_step_again_is_another_entry(self):
        ledger = filled()
        self.assertEqual(ledger.offer(STEPS[0]), 12)
        self.assertEqual(ledger.many(), 13)

    def test_refused(self):
        ledger = filled()
        for step in (
            (row(4, (0, 1), (1, 1)), "given", "less"),
            (row(5, (0, 1), (1, 1)), "given", "nolabel"),
            (row(4, (3, 1)), "bound", 3),
            (row(4, (0, 1)), "weaken", 12),
            (row(4, (0, 1)), "weaken", -11),
            (row(1, (0, 1)), "divide", 1, 0),
            (NEVER, "suppose"),
        ):
            with self.assertRaises(Refused):
                ledger.offer(step)
            self.assertEqual(list(ledger), list(STEPS))
            self.check_awake(ledger)
        self.assertEqual(ledger.offer(STEPS[1]), 12)

    def test_entries_that_are_asleep_cannot_be_used(self):
        ledger = filled()
        ledger.withdraw("less")
        with self.assertRaises(Refused):
            ledger.offer((row(5, (0, 1), (1, 1)), "weaken", 0))
        ledger.put("less", ("row", ((0, 1), (1, 1)), "<=", 5))
        self.assertEqual(ledger.offer((row(5, (0, 1), (1, 1)), "weaken", 0)), 12)


class AskingTest(LedgerTest):
    def test_steps_and_facts(self):
        ledger = filled()
        self.assertEqual([ledger.step(i) for i in range(12)], list(STEPS))
        self.assertEqual([ledger.fact(i) for i in range(12)], [step[0] for step in STEPS])

    def test_iterating(self):
        ledger = filled()
        self.assertEqual(tuple(ledger), STEPS)
        ledger.withdraw("less")
        # Entries that are asleep are told as well, and again each time.
        self.assertEqual(tuple(ledger), STEPS)
        self.assertEqual([step for step in ledger], list(STEPS))

    def test_unders(self):
        ledger = filled()
        found = [ledger.under(i) for i in range(12)]
        self.assertEqual(found, unders(STEPS))
        self.assertEqual(found[3:6], [(3,), (3,), (5,)])
        self.assertEqual(found[11], ())
        self.assertEqual([ledger.is_open(i) for i in range(12)], [above == () for above in found])

    def test_entries_that_do_not_exist(self):
        ledger = filled()
        for i in (-1, -12, 12, 13, 10 ** 30):
            for asked in (ledger.step, ledger.fact, ledger.awake, ledger.under, ledger.is_open, ledger.labels_behind):
                with self.assertRaises(NoSuch) as caught:
                    asked(i)
                self.assertEqual(caught.exception.what, i)

    def test_find(self):
        ledger = filled()
        self.assertEqual(ledger.find(row(9, (0, 2), (1, 1))), 2)
        self.assertEqual(ledger.find(row(4, (0, 1))), 1)
        self.assertEqual(ledger.find(clause((0, "<=", 4))), 7)
        # Equal facts count, not implied ones, and only open entries.
        self.assertIsNone(ledger.find(row(5, (0, 1))))
        self.assertIsNone(ledger.find(clause((0, "<=", 4), (0, "<=", 4))))
        self.assertIsNone(ledger.find(row(1, (0, 1))))
        self.assertIsNone(ledger.find(clause((2, "=", 1))))
        ledger.offer((row(1, (0, 1)), "weaken", 4))
        self.assertIsNone(ledger.find(row(1, (0, 1))))

    def test_find_passes_over_entries_that_are_asleep(self):
        ledger = filled()
        ledger.offer((row(6, (0, 1), (1, 1)), "sum", ((0, 1),)))
        ledger.put("also", ("row", ((0, 1), (1, 1)), "<=", 6))
        ledger.offer((row(6, (0, 1), (1, 1)), "given", "also"))
        self.assertEqual(ledger.find(row(6, (0, 1), (1, 1))), 10)
        ledger.withdraw("less")
        self.assertEqual(ledger.find(row(6, (0, 1), (1, 1))), 13)
        ledger.withdraw("also")
        self.assertIsNone(ledger.find(row(6, (0, 1), (1, 1))))

    def test_find_passes_over_entries_that_are_not_open(self):
        ledger = Ledger(plain_model())
        fact = row(4, (0, 1))
        ledger.offer((fact, "suppose"))
        ledger.offer((fact, "weaken", 0))
        self.assertIsNone(ledger.find(fact))
        ledger.offer((fact, "bound", 0))
        self.assertEqual(ledger.find(fact), 2)

    def test_open_entries(self):
        ledger = filled()
        self.assertEqual(ledger.open_entries(), [0, 1, 2, 6, 7, 8, 9, 10, 11])
        ledger.withdraw("less")
        self.assertEqual(ledger.open_entries(), [1, 6])
        ledger.open_entries().clear()
        self.assertEqual(ledger.open_entries(), [1, 6])

    def test_labels_behind(self):
        ledger = filled()
        expected = [["less"], [], ["less"], [], ["when"], [], ["diff"], ["less"], ["less"], ["less"], ["less"],
                    ["less", "when"]]
        self.assertEqual([ledger.labels_behind(i) for i in range(12)], expected)
        ledger.offer((clause((0, "<=", 4), (1, "=", 7)), "unit", (11, 6, 2, 1)))
        self.assertEqual(ledger.labels_behind(12), ["diff", "less", "when"])
        for label in ("when", "less", "diff"):
            ledger.withdraw(label)
        self.assertEqual([ledger.labels_behind(i) for i in range(12)], expected)
        ledger.labels_behind(0).clear()
        self.assertEqual(ledger.labels_behind(0), ["less"])

    def test_labels_behind_are_ordered_as_strings(self):
        model = Model((("x", 0, 4),))
        for label in ("b", "a10", "c", "a9", "ab"):
            model.put(label, ("row", ((0, 1),), "<=", 3))
        ledger = Ledger(model)
        for label in ("b", "a10", "c", "a9", "ab", "b"):
            ledger.offer((row(3, (0, 1)), "given", label))
        ledger.offer((row(18, (0, 6)), "sum", tuple((i, 1) for i in range(6))))
        self.assertEqual(ledger.labels_behind(6), ["a10", "a9", "ab", "b", "c"])

    def test_labels_behind_all_that_an_entry_rests_on(self):
        # Labels come in through each of the numbers of a step, those of the rule cases included.
        model = Model((("x", 0, 4),))
        for label in "abcde":
            model.put(label, ("any", ((0, "=", 1),)))
        ledger = Ledger(model)
        ledger.offer((clause((0, "=", 1)), "given", "a"))
        ledger.offer((clause((0, "=", 1)), "given", "b"))
        ledger.offer((clause((0, "<=", 1)), "look", "c", (0,)))
        ledger.offer((clause((0, "<=", 1)), "unit", (1, 2)))
        ledger.offer((clause((0, "=", 0)), "suppose"))
        ledger.offer((clause((0, "!=", 0)), "suppose"))
        ledger.offer((clause((0, "=", 1)), "cases", 1, 0, 4, 5))
        self.assertEqual([ledger.labels_behind(i) for i in (3, 5, 6)], [["a", "b", "c"], [], ["a", "b"]])


class EditTest(LedgerTest):
    def test_edits_return_none_and_are_counted(self):
        ledger = filled()
        for count, (change, given) in enumerate((
            ("put", ("new", ("times", 0, 1, 2))),
            ("withdraw", ("new",)),
            ("move", (0, 0, 4)),
            ("aim", (("min", ((0, 1),), 2),)),
        ), 1):
            self.assertIsNone(getattr(ledger, change)(*given))
            self.assertEqual(ledger.edits, count)
        self.assertEqual(ledger.model.goal(), ("min", ((0, 1),), 2))

    def test_edits_that_are_refused(self):
        ledger = filled()
        ledger.withdraw("when")
        before = (ledger.model.told(), self.awake(ledger), list(ledger))
        for error, what, change, given in (
            (BadModel, None, "put", ("Bad", ("times", 0, 1, 2))),
            (Taken, "less", "put", ("less", ("times", 0, 1, 9))),
            (BadModel, None, "put", ("new", ("times", 0, 1, 9))),
            (NoSuch, "when", "withdraw", ("when",)),
            (NoSuch, "x", "withdraw", ("x",)),
            (NoSuch, 3, "move", (3, 5, 4)),
            (NoSuch, -1, "move", (-1, 0, 1)),
            (BadModel, None, "move", (0, 5, 4)),
            (BadModel, None, "aim", (("max", ((9, 1),), 0),)),
        ):
            with self.assertRaises(error) as caught:
                getattr(ledger, change)(*given)
            if what is not None:
                self.assertEqual(caught.exception.what, what)
            self.assertEqual((ledger.model.told(), self.awake(ledger), list(ledger)), before)
            self.assertEqual(ledger.edits, 1)

    def test_too_many_constraints(self):
        ledger = filled()
        for k in range(197):
            ledger.put(f"c{k}", ("times", 0, 1, 2))
        with self.assertRaises(TooLarge):
            ledger.put("more", ("times", 0, 1, 2))
        self.assertEqual((ledger.edits, len(ledger.model.labels())), (197, 200))

    def test_withdraw_and_put_again(self):
        ledger = filled()
        body = ledger.model.body("less")
        ledger.withdraw("less")
        self.check_awake(ledger, 0, 2, 7, 8, 9, 10, 11)
        ledger.put("less", body)
        self.check_awake(ledger)
        self.assertEqual(ledger.model.labels(), ["diff", "when", "less"])
        ledger.withdraw("when")
        self.check_awake(ledger, 4, 11)
        ledger.withdraw("diff")
        self.check_awake(ledger, 4, 6, 11)
        ledger.put("diff", ("different", (2, 1, 0)))
        self.check_awake(ledger, 4, 11)
        ledger.put("when", ("when", (2, ">=", 1), ((0, 1),), "=", 1))
        self.check_awake(ledger)

    def test_put_again_with_another_body(self):
        ledger = filled()
        ledger.withdraw("less")
        ledger.put("less", ("row", ((0, 1), (1, 1)), "=", 5))
        self.check_awake(ledger)
        ledger.withdraw("less")
        ledger.put("less", ("row", ((0, 1), (1, 1)), "<=", 4))
        # The look still follows, the row is not given any more.
        self.check_awake(ledger, 0, 2, 8, 9, 10)
        ledger.withdraw("less")
        ledger.put("less", ("times", 0, 1, 2))
        self.check_awake(ledger, 0, 2, 8, 9, 10)
        ledger.withdraw("less")
        ledger.put("less", ("times", 1, 1, 1))
        # The look is at a body without its unknown.
        self.check_awake(ledger, 0, 2, 7, 8, 9, 10, 11)

    def test_a_new_label_may_wake_what_another_one_put_to_sleep(self):
        ledger = filled(steps=STEPS[:3])
        ledger.withdraw("less")
        ledger.put("other", ("row", ((0, 1), (1, 1)), "<=", 5))
        self.check_awake(ledger, 0, 2)
        ledger.put("less", ("row", ((0, 1), (1, 1)), "<=", 5))
        self.check_awake(ledger)

    def test_moves(self):
        ledger = filled()
        ledger.move(0, 0, 5)
        self.check_awake(ledger, 1, 2, 7, 9, 11)
        ledger.move(0, 0, 3)
        self.check_awake(ledger)
        ledger.move(0, -2, 4)
        self.check_awake(ledger)
        ledger.move(1, 0, 6)
        self.check_awake(ledger)
        ledger.move(1, 0, 3)
        self.check_awake(ledger)
        ledger.move(2, 0, 0)
        self.check_awake(ledger)

    def test_moves_and_units(self):
        model = Model((("x", 0, 4), ("y", 0, 4), ("z", 0, 4)))
        model.put("c", ("row", ((0, 1), (1, 1)), ">=", 4))
        ledger = filled(model, (
            (row(-4, (0, -1), (1, -1)), "given", "c"),
            (clause((0, ">=", 1), (1, ">=", 4)), "unit", (0,)),
            (clause((2, "<=", 4)), "unit", ()),
            (clause((0, ">=", 1), (1, ">=", 4), (2, "=", 9)), "weaken", 1),
            (clause((0, ">=", 0)), "look", "c", ()),
            (clause((2, "<=", 4)), "weaken", 2),
            # The unknown z stands neither in the fact nor in a hint.
            (clause((1, ">=", 0)), "unit", (0,)),
        ))
        ledger.move(1, 0, 5)
        self.check_awake(ledger)
        ledger.move(0, -1, 5)
        self.check_awake(ledger, 4)
        ledger.move(1, -1, 5)
        self.check_awake(ledger, 4, 6)
        ledger.move(2, 0, 5)
        self.check_awake(ledger, 2, 4, 5, 6)
        ledger.move(0, 0, 4)
        ledger.move(1, 0, 4)
        ledger.move(2, 0, 4)
        self.check_awake(ledger)

    def test_aim_wakes_and_puts_to_sleep_nothing(self):
        ledger = filled()
        ledger.withdraw("when")
        before = self.awake(ledger)
        ledger.aim(("min", ((0, 1),), 2))
        self.assertEqual(self.awake(ledger), before)
        self.check_awake(ledger, 4, 11)

    def test_what_an_entry_is_under_does_not_change(self):
        ledger = filled()
        ledger.withdraw("when")
        ledger.withdraw("less")
        ledger.move(0, -5, 5)
        self.assertEqual([ledger.under(i) for i in range(12)], unders(STEPS))

    def test_entries_wake_in_long_chains(self):
        model = plain_model()
        steps = [(row(5, (0, 1), (1, 1)), "given", "less")]
        steps += [(row(6 + k, (0, 1), (1, 1)), "weaken", k) for k in range(300)]
        ledger = filled(model, steps)
        ledger.withdraw("less")
        self.assertEqual(ledger.open_entries(), [])
        ledger.put("less", ("row", ((0, 1), (1, 1)), "<=", 5))
        self.check_awake(ledger)


class RandomEditsTest(LedgerTest):
    """[45] and [47] after each of many edits of random ledgers."""

    def test_edits(self):
        rng = random.Random(45)
        woken = fallen = 0
        for _ in range(25):
            ledger = self.random_ledger(rng)
            for _ in range(25):
                before = self.awake(ledger)
                random_edit(rng, ledger, "abcd")
                after = self.awake(ledger)
                self.assertEqual(after, expected_awake(ledger.model, list(ledger)))
                self.check_meaning(ledger)
                fallen += sum(one and not two for one, two in zip(before, after))
                woken += sum(two and not one for one, two in zip(before, after))
                for _ in range(3):
                    self.try_offer(rng, ledger)
        self.assertGreater(min(woken, fallen), 100)

    def random_ledger(self, rng):
        model = Model((("x", -1, 2), ("y", 0, 2), ("z", 0, 1)))
        for label in "abc":
            model.put(label, random_body(rng, 3))
        ledger = Ledger(model)
        ledger.offer((clause((0, "<=", 0)), "suppose"))
        ledger.offer((clause((0, ">=", 1)), "suppose"))
        for _ in range(60):
            self.try_offer(rng, ledger)
        return ledger

    def try_offer(self, rng, ledger):
        fact = random_fact(rng, [0, 1, 2])
        labels = ledger.model.labels() or ["a"]
        some = tuple(rng.randrange(ledger.many()) for _ in range(rng.randint(1, 3)))
        v = rng.randrange(3)
        body = ledger.model.body(labels[0]) if ledger.model.labels() else ("any", ())
        given = ("row", body[1], body[3]) if body[0] == "row" else body
        step = rng.choice((
            (row(ledger.model.high(v), (v, 1)), "bound", v),
            (row(-ledger.model.low(v) + 1, (v, -1)), "bound", v),
            (given if given[0] in ("row", "any") else fact, "given", labels[0]),
            (fact, "look", rng.choice(labels), ()),
            (fact, "look", rng.choice(labels), some),
            (fact, "unit", some),
            (fact, "weaken", some[0]),
            (fact, "cases", some[0], some[-1], 0, 1),
            (fact, "absurd", some[0]),
            (clause((0, "!=", 1), (1, "!=", 1)), "apart", rng.choice(labels)),
        ))
        try:
            ledger.offer(step)
        except Refused:
            pass

    def check_meaning(self, ledger):
        points = plain_solutions(ledger.model)
        for i in range(ledger.many()):
            if ledger.awake(i):
                for point in points:
                    if all(naive.holds(ledger.fact(s), point) for s in ledger.under(i)):
                        self.assertTrue(naive.holds(ledger.fact(i), point))


class FullTest(LedgerTest):
    def test_20000_entries_and_one_more(self):
        ledger = Ledger(plain_model())
        step = (row(4, (0, 1)), "bound", 0)
        given = (row(5, (0, 1), (1, 1)), "given", "less")
        for number in range(19999):
            ledger.offer(step)
        self.assertEqual(ledger.offer(given), 19999)
        self.assertEqual(ledger.many(), 20000)
        # Being full is the reason that counts, whether the step follows or not.
        for late in (step, (row(3, (0, 1)), "bound", 0), (row(3, (0, 1)), "weaken", 20000)):
            with self.assertRaises(TooLarge):
                ledger.offer(late)
        self.assertEqual(ledger.many(), 20000)
        self.assertEqual(ledger.step(19999), given)
        ledger.withdraw("less")
        self.assertIs(ledger.awake(19999), False)
        self.assertIs(ledger.awake(0), True)
        # Entries that are asleep count as well.
        with self.assertRaises(TooLarge):
            ledger.offer(step)
        ledger.move(0, 0, 5)
        self.assertEqual(ledger.open_entries(), [])
        ledger.move(0, 0, 1)
        self.assertEqual(ledger.open_entries(), list(range(19999)))
        self.assertEqual(refers_to(ledger.step(0)), [])


if __name__ == "__main__":
    unittest.main()
