"""What several tests make: facts, entries, models, and random facts, bodies, steps and models."""

import itertools

from commonground.facts.fact import as_literal
from commonground.facts.judge import unders
from commonground.facts.rules import follows
from commonground.model.literal import rows_of
from commonground.model.model import Model
from tests import naive

NEVER = ("any", ())


def row(rhs, *terms):
    return ("row", terms, rhs)


def clause(*literals):
    return ("any", literals)


def supposed(*facts):
    return [(fact, "suppose") for fact in facts]


def made(bounds, **bodies):
    model = Model([(f"x{v}", low, high) for v, (low, high) in enumerate(bounds)])
    for label, body in bodies.items():
        model.put(label, body)
    return model


def random_fact(rng, unknowns):
    if rng.random() < 0.4:
        chosen = sorted(rng.sample(unknowns, rng.randint(0, min(3, len(unknowns)))))
        return ("row", tuple((v, rng.choice((-3, -2, -1, 1, 2, 3))) for v in chosen), rng.randint(-6, 8))
    return ("any", tuple(
        (rng.choice(unknowns), rng.choice(("<=", ">=", "=", "!=")), rng.randint(-3, 5))
        for _ in range(rng.choice((0, 1, 1, 2, 2, 3)))
    ))


def random_body(rng, many):
    kind = rng.choice(("row", "any", "when", "different", "table", "element", "times"))
    terms = tuple((v, rng.choice((-2, -1, 1, 2))) for v in range(many) if rng.random() < 0.7)
    linear = (terms, rng.choice(("<=", ">=", "=")), rng.randint(-4, 6))
    literal = (rng.randrange(many), rng.choice(("<=", ">=", "=", "!=")), rng.randint(-2, 4))
    if kind == "row":
        return ("row",) + linear
    if kind == "any":
        return ("any", tuple({literal: True, (rng.randrange(many), "=", rng.randint(-2, 4)): True}))
    if kind == "when":
        return ("when", literal) + linear
    if kind == "different":
        return ("different", tuple(rng.sample(range(many), rng.randint(2, many))))
    if kind == "table":
        chosen = tuple(rng.sample(range(many), rng.randint(1, many)))
        return ("table", chosen, tuple(tuple(rng.randint(-2, 4) for _ in chosen) for _ in range(rng.randint(1, 5))))
    if kind == "element":
        entries = tuple(rng.randint(-2, 4) for _ in range(rng.randint(1, 5)))
        return ("element", rng.randrange(many), entries, rng.randrange(many))
    return ("times", rng.randrange(many), rng.randrange(many), rng.randrange(many))


RANDOM_RULES = (
    "suppose", "sum", "divide", "look", "then", "unit", "cases", "absurd", "weaken", "given", "bound", "apart",
)


def random_step(rng, model, steps):
    """Return a step of any rule, which may follow, about some of the first three unknowns of the model."""
    fact = random_fact(rng, [0, 1, 2])
    some = [rng.randrange(len(steps)) for _ in range(rng.randint(0, 3))] if steps else []
    label = rng.choice(model.labels())
    body = model.body(label)
    rule = rng.choice(RANDOM_RULES)
    if rule == "given":
        return (rng.choice(rows_of(*body[1:])) if body[0] == "row" else body if body[0] == "any" else fact, rule, label)
    if rule == "bound":
        return random_bound(rng, model)
    if rule == "apart":
        return random_apart(rng, body, fact, label)
    if rule == "look":
        return (fact, rule, label, tuple(some))
    if rule == "unit":
        return (fact, rule, tuple(some))
    if rule == "sum":
        return random_sum(rng, steps, some)
    if rule == "suppose" or not some:
        return (fact, "suppose")
    if rule == "divide":
        return random_divide(rng, steps[some[0]][0], some[0], fact)
    if rule == "then":
        if body[0] == "when" and rng.random() < 0.7:
            fact = rng.choice(rows_of(*body[2:]))
        return (fact, rule, label, some[0])
    if rule == "cases":
        return random_cases(rng, steps, fact)
    return (fact, rule, some[0])


def random_bound(rng, model):
    v = rng.randrange(3)
    if rng.random() < 0.5:
        return (row(model.high(v) + rng.randint(-1, 1), (v, 1)), "bound", v)
    return (row(-model.low(v) + rng.randint(-1, 1), (v, -1)), "bound", v)


def random_apart(rng, body, fact, label):
    if body[0] == "different":
        x, y = rng.sample(body[1], 2)
        a = rng.randint(-1, 3)
        fact = clause((x, "!=", a), (y, "!=", a))
    return (fact, "apart", label)


def random_divide(rng, divided, i, fact):
    d = rng.randint(1, 3)
    if divided[0] == "row" and all(c % d == 0 for _, c in divided[1]):
        fact = ("row", tuple((v, c // d) for v, c in divided[1]), divided[2] // d + rng.choice((-1, 0, 0, 1)))
    return (fact, "divide", i, d)


def random_sum(rng, steps, some):
    pairs = tuple((i, rng.randint(1, 2)) for i in some if steps[i][0][0] == "row")
    totals = {}
    for i, m in pairs:
        for v, c in steps[i][0][1]:
            totals[v] = totals.get(v, 0) + m * c
    terms = tuple((v, c) for v, c in sorted(totals.items()) if c != 0)
    rhs = sum(m * steps[i][0][2] for i, m in pairs) + rng.choice((-1, 0, 0, 1))
    return (("row", terms, rhs), "sum", pairs)


def random_cases(rng, steps, fact):
    above = unders(steps)
    pairs = [(s, t) for s in range(len(steps)) for t in range(len(steps))
             if steps[s][1] == "suppose" and steps[t][1] == "suppose"]
    s, t = rng.choice(pairs) if pairs else (0, 0)
    i = rng.choice([k for k in range(len(steps)) if s in above[k]] or [0])
    j = rng.choice([k for k in range(len(steps)) if t in above[k]] or [0])
    either = literals_of(steps[i][0]) + literals_of(steps[j][0])
    return (rng.choice((fact, steps[i][0], steps[j][0], ("any", either))), "cases", i, j, s, t)


def literals_of(fact):
    """Return literals one of which holds where the fact does, or none."""
    if fact[0] == "any":
        return fact[1]
    return () if as_literal(fact) is None else (as_literal(fact),)


def random_steps(rng, model, tries):
    """Return steps that follow, beginning with opposite suppositions, so that there is something for cases."""
    steps = [(row(0, (0, 1)), "suppose"), (row(-1, (0, -1)), "suppose")]
    for _ in range(tries):
        step = random_step(rng, model, steps)
        if follows(model, steps, step):
            steps.append(step)
    return tuple(steps)


def random_model(rng, labels="ab", bounds=((-1, 2), (0, 2), (0, 1))):
    model = made(bounds, **{label: random_body(rng, len(bounds)) for label in labels})
    terms = tuple((v, rng.choice((-3, -2, -1, 1, 2, 3))) for v in range(len(bounds)) if rng.random() < 0.7)
    model.aim((rng.choice(("max", "min")), terms, rng.randint(-5, 5)))
    return model


def random_edit(rng, ledger, labels):
    """Edit the ledger or the workshop, whose model has these labels or some of them, and three unknowns."""
    model = ledger.model if hasattr(ledger, "model") else ledger.ledger.model
    kind = rng.choice(("put", "withdraw", "move", "move", "aim"))
    if kind == "put":
        free = [label for label in labels if not model.has(label)]
        if free:
            ledger.put(rng.choice(free), random_body(rng, 3))
    elif kind == "withdraw":
        if model.labels():
            ledger.withdraw(rng.choice(model.labels()))
    elif kind == "move":
        low = rng.randint(-2, 1)
        ledger.move(rng.randrange(3), low, low + rng.randint(0, 3))
    else:
        ledger.aim((rng.choice(("max", "min")), ((0, 1),), rng.randint(-3, 3)))


def random_linear_model(rng, rows=3, bounds=((-1, 4), (0, 5), (0, 3))):
    """Return a model of rows, which often have a common solution, and one other body."""
    model = made(bounds)
    near = [rng.randint(low, high) for low, high in bounds]
    for k in range(rows):
        terms = tuple((v, rng.choice((-5, -4, -3, -2, 2, 3, 4, 5))) for v in range(len(bounds)) if rng.random() < 0.8)
        model.put(f"r{k}", ("row", terms, "<=", naive.total(terms, near) + rng.randint(-1, 4)))
    model.put("b", random_body(rng, len(bounds)))
    terms = tuple((v, rng.choice((-3, -2, -1, 1, 2, 3))) for v in range(len(bounds)))
    model.aim((rng.choice(("max", "min")), terms, rng.randint(-5, 5)))
    return model


def points_in(bounds):
    return list(itertools.product(*[range(low, high + 1) for low, high in bounds]))


def plain_solutions(model):
    """Return the solutions by a second, plain implementation."""
    unknowns, constraints, _ = model.told()
    points = points_in([(low, high) for _, low, high in unknowns])
    return [p for p in points if all(naive.body_is_met(body, p) for _, body in constraints)]
