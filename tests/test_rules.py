"""Promises [27] to [32], [34], [35] and [37] to [39]: the rules that neither look nor propagate."""

import unittest

from commonground.facts.rules import follows
from commonground.model.model import Model
from tests.makers import NEVER, clause, row, supposed

HUGE = 10 ** 40


def made():
    model = Model((("x", 0, 5), ("y", -3, 4), ("z", 0, 3), ("b", 0, 1)))
    model.put("less", ("row", ((0, 2), (1, -1)), "<=", 4))
    model.put("more", ("row", ((0, 2), (1, -1)), ">=", -2))
    model.put("same", ("row", ((1, 1), (2, 3)), "=", 6))
    model.put("any", ("any", ((0, "=", 1), (1, "<=", 2), (3, ">=", 1))))
    model.put("when", ("when", (3, ">=", 1), ((0, 1), (2, 1)), "=", 4))
    model.put("diff", ("different", (2, 0, 1)))
    model.put("table", ("table", (0, 2), ((1, 1), (2, 3))))
    model.put("elem", ("element", 0, (1, 2, 3), 2))
    model.put("times", ("times", 0, 2, 1))
    return model


class RulesTest(unittest.TestCase):
    def setUp(self):
        self.model = made()

    def yes(self, step, entries=()):
        self.assertIs(follows(self.model, list(entries), step), True, step)

    def no(self, step, entries=()):
        self.assertIs(follows(self.model, list(entries), step), False, step)


class ReferringTest(RulesTest):
    """[27], rule by rule: a step that follows, and the same step with something missing."""

    def setUp(self):
        super().setUp()
        self.entries = supposed(
            row(4, (0, 1)), row(-5, (0, -1)), NEVER, row(2, (0, 2), (2, 4)), clause((3, "=", 1)), row(-9, (1, 1))
        )
        self.steps = [
            (row(5, (0, 1)), "bound", 0),
            (row(4, (0, 2), (1, -1)), "given", "less"),
            (clause((0, "!=", 3)), "suppose"),
            (row(6, (0, 3), (2, 4)), "sum", ((3, 1), (0, 1))),
            (row(1, (0, 1), (2, 2)), "divide", 3, 2),
            (clause((2, "<=", 3)), "look", "table", (0, 1)),
            (clause((1, "!=", 2), (2, "!=", 2)), "apart", "diff"),
            (row(4, (0, 1), (2, 1)), "then", "when", 4),
            (clause((0, "=", 9)), "unit", (5, 0)),
            (clause((2, "=", 9)), "cases", 2, 2, 0, 1),
            (clause((2, "=", 9)), "absurd", 2),
            (row(9, (0, 1)), "weaken", 0),
        ]

    def numbers(self, step):
        """Return the places of the numbers of steps in the step, as functions that put in another number."""
        def put(at):
            return lambda i: step[:at] + (i,) + step[at + 1:]

        def put_inside(at, k):
            def changed(i):
                one = step[at][k]
                new = (i, one[1]) if step[1] == "sum" else i
                return step[:at] + (step[at][:k] + (new,) + step[at][k + 1:],) + step[at + 1:]
            return changed

        lists = {"sum": 2, "look": 3, "unit": 2}
        single = {"divide": (2,), "then": (3,), "cases": (2, 3, 4, 5), "absurd": (2,), "weaken": (2,)}
        if step[1] in lists:
            at = lists[step[1]]
            found = [put_inside(at, k) for k in range(len(step[at]))]
            numbers = [one[0] if step[1] == "sum" else one for one in step[at]]
        else:
            found = [put(at) for at in single.get(step[1], ())]
            numbers = [step[at] for at in single.get(step[1], ())]
        return list(zip(found, numbers))

    def test_all_rules_are_here(self):
        self.assertEqual(len({step[1] for step in self.steps}), 12)
        self.assertEqual(sum(len(self.numbers(step)) for step in self.steps), 14)

    def test_the_steps_follow(self):
        for step in self.steps:
            self.yes(step, self.entries)

    def test_the_entries_are_not_changed(self):
        for step in self.steps:
            entries = list(self.entries)
            follows(self.model, entries, step)
            self.assertEqual(entries, self.entries)

    def test_numbers_that_do_not_exist(self):
        many = len(self.entries)
        for step in self.steps:
            for put, number in self.numbers(step):
                self.assertEqual(put(number), step)
                for wrong in (many, many + 1, HUGE, -1, number - many, -many, -HUGE):
                    self.no(put(wrong), self.entries)

    def test_steps_that_are_not_earlier(self):
        for step in self.steps:
            for _, number in self.numbers(step):
                self.no(step, self.entries[:number])

    def test_steps_that_are_asleep(self):
        for step in self.steps:
            used = {number for _, number in self.numbers(step)}
            for number in range(len(self.entries)):
                entries = [None if k == number else entry for k, entry in enumerate(self.entries)]
                self.assertIs(follows(self.model, entries, step), number not in used, (step, number))

    def test_labels_that_do_not_exist(self):
        for step in self.steps:
            if step[1] in ("given", "look", "apart", "then"):
                self.no(step[:2] + ("nolabel",) + step[3:], self.entries)
                # The name of an unknown is no label.
                self.no(step[:2] + ("x",) + step[3:], self.entries)
                self.model.withdraw(step[2])
                self.no(step, self.entries)

    def test_all_references_count_even_if_they_are_not_needed(self):
        self.yes((clause((0, "=", 9)), "unit", (2, 0)), self.entries)
        self.no((clause((0, "=", 9)), "unit", (2, 6)), self.entries)
        self.no((clause((0, "<=", 9)), "unit", (6,)), self.entries)
        self.no((clause((0, "<=", 9)), "look", "table", (6,)), self.entries)

    def test_unknowns_that_do_not_exist(self):
        entries = self.entries
        for v in (4, 5, -1, -4, HUGE):
            self.no((row(HUGE, (v, 1)), "bound", v), entries)
            self.no((row(5, (0, 1)), "bound", v), entries)
            self.no((row(4, (v, 1)), "suppose"), entries)
            self.no((clause((v, "=", 1)), "suppose"), entries)
            self.no((row(HUGE, (v, 1)), "sum", ()), entries)
            self.no((clause((v, "=", 1)), "unit", (2,)), entries)
            self.no((clause((v, "=", 1), (0, "<=", 5)), "unit", ()), entries)
            self.no((clause((v, "=", 1)), "cases", 2, 2, 0, 1), entries)
            self.no((clause((v, "=", 1)), "absurd", 2), entries)
            self.no((clause((v, "=", 1)), "weaken", 2), entries)
            self.no((clause((0, "<=", 4), (v, "=", 1)), "weaken", 0), entries)
            self.no((clause((v, "=", 1)), "look", "table", ()), entries)
            self.no((clause((v, "!=", 1), (0, "!=", 1)), "apart", "diff"), entries)

    def test_entries_with_unknowns_that_do_not_exist(self):
        for v in (4, -1):
            entries = supposed(row(4, (v, 2)), clause((v, "=", 1)))
            self.no((row(4, (v, 2)), "sum", ((0, 1),)), entries)
            self.no((row(2, (v, 1)), "divide", 0, 2), entries)
            self.no((row(4, (v, 2)), "weaken", 0), entries)
            self.no((clause((0, "<=", 4)), "unit", (0,)), entries)
            self.no((clause((0, "<=", 4)), "unit", (1,)), entries)


class BoundTest(RulesTest):
    def test_upper(self):
        for rhs, expected in ((5, True), (6, True), (HUGE, True), (4, False), (0, False), (-HUGE, False)):
            self.assertIs(follows(self.model, [], (row(rhs, (0, 1)), "bound", 0)), expected, rhs)

    def test_lower(self):
        for rhs, expected in ((3, True), (4, True), (HUGE, True), (2, False), (-3, False)):
            self.assertIs(follows(self.model, [], (row(rhs, (1, -1)), "bound", 1)), expected, rhs)

    def test_other_facts(self):
        self.no((row(50, (0, 2)), "bound", 0))
        self.no((row(50, (0, -2)), "bound", 0))
        self.no((row(50, (1, 1)), "bound", 0))
        self.no((row(50, (0, 1)), "bound", 1))
        self.no((row(50), "bound", 0))
        self.no((row(50, (0, 1), (1, 1)), "bound", 0))
        self.no((clause((0, "<=", 5)), "bound", 0))

    def test_present_bounds_count(self):
        self.model.move(0, 2, 4)
        self.yes((row(4, (0, 1)), "bound", 0))
        self.no((row(3, (0, 1)), "bound", 0))
        self.yes((row(-2, (0, -1)), "bound", 0))
        self.no((row(-3, (0, -1)), "bound", 0))


class GivenTest(RulesTest):
    def test_rows(self):
        self.yes((row(4, (0, 2), (1, -1)), "given", "less"))
        self.yes((row(2, (0, -2), (1, 1)), "given", "more"))
        self.yes((row(6, (1, 1), (2, 3)), "given", "same"))
        self.yes((row(-6, (1, -1), (2, -3)), "given", "same"))

    def test_rows_that_are_not_equal(self):
        for fact in (row(3, (0, 2), (1, -1)), row(5, (0, 2), (1, -1)), row(4, (0, 2)), row(4, (0, 2), (1, 1)),
                     row(4, (0, 2), (2, -1)), row(-4, (0, -2), (1, 1)), row(8, (0, 4), (1, -2))):
            self.no((fact, "given", "less"))
        self.no((row(-2, (0, 2), (1, -1)), "given", "more"))
        self.no((row(2, (0, 2), (1, -1)), "given", "more"))
        self.no((row(4, (0, 2), (1, -1)), "given", "more"))

    def test_clauses(self):
        self.yes((clause((0, "=", 1), (1, "<=", 2), (3, ">=", 1)), "given", "any"))
        self.no((clause((1, "<=", 2), (0, "=", 1), (3, ">=", 1)), "given", "any"))
        self.no((clause((0, "=", 1), (1, "<=", 2)), "given", "any"))
        self.no((clause((0, "=", 1), (1, "<=", 3), (3, ">=", 1)), "given", "any"))
        self.no((clause((0, "=", 1), (1, "<=", 2), (3, ">=", 1), (3, ">=", 1)), "given", "any"))

    def test_a_row_is_no_clause(self):
        self.model.put("one", ("row", ((0, 1),), "<=", 3))
        self.model.put("lit", ("any", ((0, "<=", 3),)))
        self.yes((row(3, (0, 1)), "given", "one"))
        self.no((clause((0, "<=", 3)), "given", "one"))
        self.yes((clause((0, "<=", 3)), "given", "lit"))
        self.no((row(3, (0, 1)), "given", "lit"))

    def test_other_bodies_give_nothing(self):
        self.no((row(4, (0, 1), (2, 1)), "given", "when"))
        for label in ("diff", "table", "elem", "times"):
            self.no((row(HUGE, (0, 1)), "given", label))
            self.no((clause((0, "<=", 5)), "given", label))


class SupposeTest(RulesTest):
    def test_what_has_a_negation(self):
        for fact in (row(4, (0, 2)), row(-HUGE), row(1), clause((0, "=", 77)), row(HUGE, (0, HUGE), (3, -HUGE))):
            self.yes((fact, "suppose"))

    def test_what_has_none(self):
        for fact in (NEVER, clause((0, "=", 1), (1, "=", 1)), clause((0, "=", 1), (0, "=", 1))):
            self.no((fact, "suppose"))


class SumTest(RulesTest):
    def setUp(self):
        super().setUp()
        self.entries = supposed(
            row(4, (0, 2), (1, -1)), row(-3, (1, 1), (2, 5)), clause((0, "<=", 7)), clause((0, ">=", 2)),
            clause((0, "=", 1)), clause((0, "<=", 7), (0, "<=", 7)), row(-1), row(5, (0, -2), (1, 1)),
        )

    def check(self, rhs, terms, pairs):
        """Check that the row follows with this rhs and just does not with the next lower one."""
        self.yes((("row", terms, rhs), "sum", pairs), self.entries)
        self.yes((("row", terms, rhs + 1), "sum", pairs), self.entries)
        self.yes((("row", terms, rhs + HUGE), "sum", pairs), self.entries)
        self.no((("row", terms, rhs - 1), "sum", pairs), self.entries)

    def test_sums(self):
        self.check(4, ((0, 2), (1, -1)), ((0, 1),))
        self.check(12, ((0, 6), (1, -3)), ((0, 3),))
        self.check(1, ((0, 2), (2, 5)), ((0, 1), (1, 1)))
        self.check(5, ((0, 4), (1, -1), (2, 5)), ((0, 2), (1, 1)))
        self.check(4 * HUGE, ((0, 2 * HUGE), (1, -HUGE)), ((0, HUGE),))

    def test_the_same_step_several_times(self):
        self.check(12, ((0, 6), (1, -3)), ((0, 1), (0, 2)))
        self.check(9, ((0, 6), (1, -2), (2, 5)), ((0, 1), (1, 1), (0, 2)))

    def test_order_of_pairs_does_not_matter(self):
        self.check(1, ((0, 2), (2, 5)), ((1, 1), (0, 1)))

    def test_coefficients_that_cancel(self):
        self.check(9, (), ((0, 1), (7, 1)))
        self.no((row(9, (0, 0), (1, 0)), "sum", ((0, 1), (7, 1))), self.entries)

    def test_no_pairs(self):
        self.check(0, (), ())
        self.no((row(0, (0, 1)), "sum", ()), self.entries)

    def test_clauses_that_count_as_rows(self):
        self.check(7, ((0, 1),), ((2, 1),))
        self.check(-4, ((0, -2),), ((3, 2),))
        self.check(5, (), ((2, 1), (3, 1)))

    def test_facts_that_count_as_no_row(self):
        self.no((row(HUGE, (0, 1)), "sum", ((4, 1),)), self.entries)
        self.no((row(HUGE, (0, 1)), "sum", ((5, 1),)), self.entries)
        self.no((row(HUGE, (0, 2), (1, -1)), "sum", ((0, 1), (4, 1))), self.entries)

    def test_rows_without_terms(self):
        self.check(-2, (), ((6, 2),))
        self.check(3, ((0, 2), (1, -1)), ((6, 1), (0, 1)))

    def test_multipliers_are_at_least_one(self):
        for m in (0, -1, -HUGE):
            self.no((row(HUGE), "sum", ((0, m),)), self.entries)
            self.no((row(4 * m, (0, 2 * m), (1, -m)), "sum", ((0, m),)), self.entries)
            self.no((row(4, (0, 2), (1, -1)), "sum", ((0, 1), (6, m))), self.entries)
            self.no((row(4, (0, 2), (1, -1)), "sum", ((6, m), (0, 1))), self.entries)
        self.no((row(8, (0, 4), (1, -2)), "sum", ((0, 3), (0, -1))), self.entries)

    def test_other_terms(self):
        for terms in (((0, 2),), ((0, 2), (1, 1)), ((0, 2), (2, -1)), ((0, 2), (1, -1), (2, 1)), ()):
            self.no((("row", terms, HUGE), "sum", ((0, 1),)), self.entries)

    def test_the_fact_must_be_a_row(self):
        self.no((clause((0, "<=", 7)), "sum", ((2, 1),)), self.entries)
        self.no((NEVER, "sum", ((6, 1),)), self.entries)


class DivideTest(RulesTest):
    def setUp(self):
        super().setUp()
        self.entries = supposed(
            row(13, (0, 6), (1, -9)), row(-13, (0, 6), (1, -9)), clause((0, "<=", 7)), clause((0, "=", 6)), row(-5),
            row(5 * HUGE + 4, (0, 3 * HUGE)), row(12, (0, 4), (1, 6)), clause((0, ">=", 7)),
        )

    def check(self, i, d, rhs, terms):
        self.yes((("row", terms, rhs), "divide", i, d), self.entries)
        self.yes((("row", terms, rhs + 1), "divide", i, d), self.entries)
        self.no((("row", terms, rhs - 1), "divide", i, d), self.entries)

    def test_quotients(self):
        self.check(0, 3, 4, ((0, 2), (1, -3)))
        self.check(0, 1, 13, ((0, 6), (1, -9)))
        self.check(1, 3, -5, ((0, 2), (1, -3)))
        self.check(5, HUGE, 5, ((0, 3),))
        self.check(6, 2, 6, ((0, 2), (1, 3)))

    def test_clauses_that_count_as_rows(self):
        self.check(2, 1, 7, ((0, 1),))
        self.check(7, 1, -7, ((0, -1),))
        self.no((row(6, (0, 1)), "divide", 3, 1), self.entries)

    def test_rows_without_terms(self):
        self.check(4, 2, -3, ())
        self.check(4, HUGE, -1, ())

    def test_not_a_multiple(self):
        for i, d, terms in ((0, 2, ((0, 3), (1, -4))), (0, 2, ((0, 3), (1, -5))), (0, 6, ((0, 1), (1, -2))),
                            (0, 6, ((0, 1), (1, -1))), (0, 9, ((0, 0), (1, -1))), (6, 4, ((0, 1), (1, 1))),
                            (2, 2, ((0, 0),)), (2, 2, ())):
            self.no((("row", terms, HUGE), "divide", i, d), self.entries)

    def test_divisors_are_at_least_one(self):
        for d in (0, -1, -3, -HUGE):
            self.no((row(HUGE, (0, 2), (1, -3)), "divide", 0, d), self.entries)
            self.no((row(HUGE, (0, -6), (1, 9)), "divide", 0, d), self.entries)
            self.no((row(HUGE, (0, -2), (1, 3)), "divide", 0, d), self.entries)
            self.no((row(HUGE), "divide", 4, d), self.entries)

    def test_other_terms_and_facts(self):
        self.no((row(HUGE, (0, 2)), "divide", 0, 3), self.entries)
        self.no((row(HUGE, (0, 6), (1, -9)), "divide", 0, 3), self.entries)
        self.no((row(HUGE, (0, 2), (2, -3)), "divide", 0, 3), self.entries)
        self.no((clause((0, "<=", HUGE)), "divide", 2, 1), self.entries)


class ApartTest(RulesTest):
    def test_pairs_in_any_order(self):
        for x, y in ((0, 1), (1, 0), (0, 2), (2, 0), (1, 2), (2, 1)):
            for a in (-3, 0, 2, 77, HUGE):
                self.yes((clause((x, "!=", a), (y, "!=", a)), "apart", "diff"))

    def test_what_just_does_not_follow(self):
        for fact in (
            clause((0, "!=", 1), (1, "!=", 2)),
            clause((0, "!=", 1), (0, "!=", 1)),
            clause((0, "!=", 1), (3, "!=", 1)),
            clause((3, "!=", 1), (0, "!=", 1)),
            clause((0, "=", 1), (1, "!=", 1)),
            clause((0, "!=", 1), (1, "=", 1)),
            clause((0, "<=", 1), (1, "!=", 1)),
            clause((0, "!=", 1), (1, ">=", 1)),
            clause((0, "!=", 1)),
            clause((0, "!=", 1), (1, "!=", 1), (2, "!=", 1)),
            NEVER,
            row(1, (0, 1), (1, 1)),
            row(1),
        ):
            self.no((fact, "apart", "diff"))

    def test_other_bodies(self):
        fact = clause((0, "!=", 1), (2, "!=", 1))
        self.yes((fact, "apart", "diff"))
        for label in ("less", "any", "when", "table", "elem", "times"):
            self.no((fact, "apart", label))


class ThenTest(RulesTest):
    def setUp(self):
        super().setUp()
        self.entries = supposed(
            clause((3, ">=", 1)), clause((3, "=", 1)), row(-1, (3, -1)), row(-1, (3, -2)), clause((3, ">=", 0)), NEVER,
            clause((3, ">=", 1), (3, ">=", 1)), clause((3, ">=", 1), (0, "=", 1)), clause((2, ">=", 1)), row(-1),
        )
        self.below = row(4, (0, 1), (2, 1))
        self.above = row(-4, (0, -1), (2, -1))

    def test_facts_that_imply_the_literal(self):
        for i, expected in enumerate((True, True, True, True, False, True, True, False, False, True)):
            for fact in (self.below, self.above):
                self.assertIs(follows(self.model, self.entries, (fact, "then", "when", i)), expected, i)

    def test_other_rows(self):
        for fact in (row(3, (0, 1), (2, 1)), row(5, (0, 1), (2, 1)), row(4, (0, 1)), row(-4, (0, 1), (2, 1)),
                     row(4, (0, -1), (2, -1)), NEVER, clause((3, ">=", 1))):
            self.no((fact, "then", "when", 0), self.entries)

    def test_one_sided_bodies(self):
        self.model.put("up", ("when", (3, ">=", 1), ((0, 1), (2, 1)), "<=", 4))
        self.model.put("down", ("when", (3, ">=", 1), ((0, 1), (2, 1)), ">=", 4))
        self.yes((self.below, "then", "up", 0), self.entries)
        self.no((self.above, "then", "up", 0), self.entries)
        self.no((self.below, "then", "down", 0), self.entries)
        self.yes((self.above, "then", "down", 0), self.entries)

    def test_other_bodies(self):
        for label in ("less", "same", "any", "diff", "table", "elem", "times"):
            self.no((self.below, "then", label, 5), self.entries)
        self.no((row(4, (0, 2), (1, -1)), "then", "less", 5), self.entries)
        self.no((row(6, (1, 1), (2, 3)), "then", "same", 5), self.entries)


class CasesTest(RulesTest):
    def setUp(self):
        super().setUp()
        self.entries = supposed(
            row(4, (0, 1)), row(-5, (0, -1)), clause((1, "=", 3)), clause((1, "!=", 3)), clause((0, ">=", 5)),
            row(-4, (0, -1)), clause((1, "<=", 2)), clause((1, ">=", 4)),
        ) + [
            (row(4, (0, 1)), "weaken", 0), (row(-5, (0, -1)), "weaken", 1), (NEVER, "weaken", 0),
            (row(2, (0, 1), (2, 1)), "weaken", 0),
        ]
        self.fact = row(3, (0, 1), (2, 1))

    def test_either_order(self):
        for s, t in ((0, 1), (1, 0), (2, 3), (3, 2)):
            self.yes((self.fact, "cases", 11, 10, s, t), self.entries)
            self.yes((self.fact, "cases", 10, 11, s, t), self.entries)
            self.yes((self.fact, "cases", 11, 11, s, t), self.entries)

    def test_suppositions_that_are_not_opposite(self):
        for s, t in ((0, 0), (1, 1), (0, 2), (0, 5), (5, 1), (2, 2), (0, 4), (4, 0), (2, 6), (6, 2), (6, 7), (1, 3)):
            self.no((self.fact, "cases", 11, 10, s, t), self.entries)

    def test_steps_that_are_no_suppositions(self):
        self.no((self.fact, "cases", 11, 10, 0, 9), self.entries)
        self.no((self.fact, "cases", 11, 10, 8, 1), self.entries)
        self.no((self.fact, "cases", 11, 10, 8, 9), self.entries)

    def test_facts_that_do_not_imply(self):
        self.no((row(1, (0, 1), (2, 1)), "cases", 11, 10, 0, 1), self.entries)
        self.yes((row(2, (0, 1), (2, 1)), "cases", 11, 10, 0, 1), self.entries)
        self.no((self.fact, "cases", 11, 2, 0, 1), self.entries)
        self.no((self.fact, "cases", 2, 11, 0, 1), self.entries)
        self.yes((clause((1, "<=", 2), (1, "=", 3)), "cases", 2, 6, 0, 1), self.entries)
        self.no((clause((1, "<=", 2), (1, "=", 3)), "cases", 2, 7, 0, 1), self.entries)

    def test_rows_and_clauses_are_not_opposite_to_each_other(self):
        entries = supposed(row(4, (0, 1)), clause((0, ">=", 5)), clause((0, "<=", 4)), NEVER)
        entries[3] = (NEVER, "weaken", 0)
        self.no((NEVER, "cases", 3, 3, 0, 1), entries)
        self.no((NEVER, "cases", 3, 3, 1, 0), entries)
        self.yes((NEVER, "cases", 3, 3, 2, 1), entries)


class AbsurdTest(RulesTest):
    def test_contradictions(self):
        for fact in (NEVER, row(-1), row(-HUGE)):
            for goal in (NEVER, row(-5), clause((0, "=", 77), (0, "=", 77)), row(-HUGE, (0, 1), (3, HUGE))):
                self.yes((goal, "absurd", 1), supposed(row(0), fact))

    def test_others(self):
        for fact in (row(0), row(-1, (0, 1)), clause((0, "=", 77))):
            self.no((row(0), "absurd", 0), supposed(fact))


class WeakenTest(RulesTest):
    def test_what_is_implied(self):
        entries = supposed(row(5, (0, 2)), clause((0, "=", 1), (1, "=", 2)), NEVER)
        self.yes((row(5, (0, 2)), "weaken", 0), entries)
        self.yes((row(2, (0, 1)), "weaken", 0), entries)
        self.no((row(1, (0, 1)), "weaken", 0), entries)
        self.yes((clause((3, "=", 0), (0, "!=", 3)), "weaken", 0), entries)
        self.no((clause((3, "=", 0), (0, "!=", 2)), "weaken", 0), entries)
        self.yes((clause((1, "=", 2), (2, "=", 2), (0, "=", 1)), "weaken", 1), entries)
        self.no((clause((1, "=", 2), (2, "=", 2)), "weaken", 1), entries)
        self.yes((row(-4, (3, 7)), "weaken", 2), entries)


if __name__ == "__main__":
    unittest.main()
