"""The interface: names, arguments, and the files and classes in which they are defined."""

import ast
import importlib
import inspect
import pathlib
import unittest

FUNCTIONS = {
    "commonground.model.literal": (
        "relation_holds(relation, left, right)", "literal_holds(literal, worth)", "negated(literal)",
        "literal_implies(first, second)", "terms_sum(terms, point)", "negated_terms(terms)",
        "rows_of(terms, relation, rhs)",
    ),
    "commonground.model.body": (
        "unknowns_of(body)", "body_holds(body, point)", "is_label(text)", "body_fits(body, many)",
    ),
    "commonground.model.plain": ("solutions(model)", "best_plain(model)"),
    "commonground.facts.fact": (
        "fact_holds(fact, point)", "is_contradiction(fact)", "as_row(fact)", "as_literal(fact)", "negation(fact)",
        "implies(first, second)", "unknowns_in(fact)",
    ),
    "commonground.facts.rules": ("follows(model, entries, step)",),
    "commonground.facts.choices": ("look_cost(model, body, fact)",),
    "commonground.facts.judge": (
        "refers_to(step)", "unders(steps)", "first_bad(model, steps)", "accepts(model, certificate)",
    ),
    "commonground.ledger.bounding": ("contradiction_in(ledger)", "bound_of(ledger)", "entry_for(ledger, worth)"),
    "commonground.ledger.certificate": (
        "trim(steps)", "cut(ledger, i)", "compose(helper_steps, label, steps)", "carry(steps, model, other)",
        "carry_body(body, model, other)",
    ),
    "commonground.exact.ratio": (
        "ratio(top, bottom)", "whole(n)", "plus(a, b)", "minus(a, b)", "product(a, b)", "is_less(a, b)",
        "is_whole(a)", "floor_of(a)",
    ),
    "commonground.exact.simplex": (
        "inequality(lows, highs, rows, q)", "combination(lows, highs, rows, weights)",
        "optimum(lows, highs, rows, aim)", "rounding(lows, highs, rows, aim)",
    ),
    "commonground.workers.settled": ("is_settled(ledger, standing)",),
    "commonground.text.words": ("integer_text(n)", "read_integer(word)"),
    "commonground.text.models": ("body_text(model, body)", "model_text(model)", "read_model(text)"),
    "commonground.text.steps": (
        "fact_text(model, fact)", "step_text(model, step)", "read_fact(model, text)", "read_step(model, text)",
    ),
    "commonground.text.certificates": ("certificate_text(model, certificate)", "read_certificate(model, text)"),
    "commonground.workers.relaxation": ("rows_at_hand(ledger)", "relaxation(ledger)"),
    "commonground.workers.boxes": (
        "whole_box(model)", "in_box(box, point)", "rest_after(model, facts)",
        "clause_against(model, box, unknowns)", "support_cost(body, box)", "has_support(body, box)",
    ),
    "commonground.workers.narrowing": (
        "box_of(ledger)", "is_possible(box, literal)", "is_sure(box, literal)", "keeps(box, literal)",
        "least_sum(box, terms)", "row_consistent(box, row)", "clause_consistent(box, clause)",
        "body_consistent(box, body)", "narrow_box(model, facts)",
    ),
    "commonground.workers.cause": ("cause_of(model, label, worths)",),
    "commonground.diagram.build": ("diagram_of(model)", "diagram_from(pairs, points)"),
    "commonground.diagram.reading": (
        "belongs(diagram, point)", "count(diagram)", "size(diagram)", "solution_at(diagram, k)",
        "rank_of(diagram, point)", "points_of(diagram)", "best_of(diagram, goal)", "values_of(diagram, v)",
    ),
    "commonground.diagram.algebra": (
        "meet(first, second)", "join(first, second)", "difference(first, second)", "pinned(diagram, v, a)",
    ),
    "commonground.conflict.hitting": ("hitting_sets(sets)", "smallest_sets(sets)"),
    "commonground.conflict.decide": ("decide(model, labels)",),
    "commonground.conflict.survey": (
        "smallest_conflict(model, order)", "survey(model, soft)", "cheapest_repair(model, soft, weights)",
    ),
}

CLASSES = {
    "commonground.model.model": {
        "Model(unknowns)": (
            "many()", "name(v)", "low(v)", "high(v)", "number(name)", "labels()", "has(label)", "body(label)",
            "goal()", "put(label, body)", "withdraw(label)", "move(v, low, high)", "aim(goal)", "inside(point)",
            "is_solution(point)", "broken(point)", "worth(point)", "is_better(first, second)", "goal_row(worth)",
            "improving_row(worth)", "copy()", "told()",
        ),
    },
    "commonground.ledger.ledger": {
        "Ledger(model)": (
            "offer(step)", "put(label, body)", "withdraw(label)", "move(v, low, high)", "aim(goal)", "many()",
            "step(i)", "fact(i)", "awake(i)", "under(i)", "is_open(i)", "find(fact)", "open_entries()",
            "labels_behind(i)",
        ),
    },
    "commonground.ledger.standing": {"Standing(ledger)": ("show(point)", "refresh()", "best()")},
    "commonground.ledger.pen": {
        "Pen(ledger, standing, room=None)": ("offer(step)", "suppose(fact)", "written()"),
    },
    "commonground.exact.tableau": {
        "Tableau(lows, highs, rows, aim)": (
            "free()", "aim_equation()", "column_equation(j)", "slack_equation(q)", "corner()", "pivot(q, k)",
            "choose()", "settle()",
        ),
    },
    "commonground.workers.linear": {"Linear()": ("turn(pen)",)},
    "commonground.workers.cuts": {"Cuts()": ("turn(pen)",)},
    "commonground.workers.branch": {"Branch()": ("turn(pen)",)},
    "commonground.workers.narrow": {"Narrow()": ("turn(pen)",)},
    "commonground.workers.remaining": {"Remaining(model)": ("left(v)", "fix(v, a)", "apply(fact)", "single()")},
    "commonground.workers.learn": {"Learn()": ("turn(pen)",)},
    "commonground.diagram.track": {"Track(model, body)": ("start()", "after(state, v, a)")},
    "commonground.workers.chart": {"Chart()": ("turn(pen)",)},
    "commonground.workshop.workshop": {
        "Workshop(model)": (
            "turn(name, *, room=None)", "run(*names, room=None)", "begin_anew(name)", "settle(name)", "offer(step)",
            "show(point)", "put(label, body)", "withdraw(label)", "move(v, low, high)", "aim(goal)", "best()",
            "bound()", "has_none()", "at_rest()", "answer()", "certificate()",
        ),
    },
}

ERRORS = (
    "GroundError", "BadModel", "BadText", "Taken", "NoSuch", "Refused", "NotASolution", "TooLarge", "Unfinished",
    "Stopped",
)


def read(module):
    return ast.parse(pathlib.Path(importlib.import_module(module).__file__).read_text(encoding="utf-8"))


def defined(body, kind):
    return {node.name for node in body if isinstance(node, kind)}


def shape(function, leave_out=0):
    """Return the parameters as they would be written without annotations."""
    given = list(inspect.signature(function).parameters.values())[leave_out:]
    return str(inspect.Signature([each.replace(annotation=inspect.Parameter.empty) for each in given]))


def split(told):
    return told[: told.index("(")], told[told.index("("):]


class InterfaceTest(unittest.TestCase):
    def test_functions(self):
        for module, functions in FUNCTIONS.items():
            here = defined(read(module).body, ast.FunctionDef)
            for told in functions:
                name, signature = split(told)
                with self.subTest(module=module, name=name):
                    self.assertIn(name, here)
                    function = getattr(importlib.import_module(module), name)
                    self.assertEqual(shape(function), signature)

    def test_classes(self):
        for module, classes in CLASSES.items():
            nodes = {node.name: node for node in read(module).body if isinstance(node, ast.ClassDef)}
            for made, methods in classes.items():
                name, signature = split(made)
                with self.subTest(module=module, name=name):
                    self.assertIn(name, nodes)
                    owner = getattr(importlib.import_module(module), name)
                    self.assertEqual(shape(owner), signature)
                    self.check_methods(owner, defined(nodes[name].body, ast.FunctionDef), methods)

    def check_methods(self, owner, here, methods):
        for told in methods:
            name, signature = split(told)
            self.assertIn(name, here)
            self.assertEqual(shape(getattr(owner, name), 1), signature, name)

    def test_errors(self):
        self.assertLessEqual(set(ERRORS), defined(read("commonground.errors").body, ast.ClassDef))


if __name__ == "__main__":
    unittest.main()
