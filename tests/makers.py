"""What several tests make: facts, entries, models, and random facts and bodies."""

from commonground.model.model import Model

NEVER = ("any", ())


def row(rhs, *terms):
    return ("row", terms, rhs)


def clause(*literals):
    return ("any", literals)


def supposed(*facts):
    return [(fact, "suppose") for fact in facts]


def made(bounds, **bodies):
    model = Model([(f"x{v}", low, high) for v, (low, high) in enumerate(bounds)])
    for label, body in bodies.items():
        model.put(label, body)
    return model


def random_fact(rng, unknowns):
    if rng.random() < 0.4:
        chosen = sorted(rng.sample(unknowns, rng.randint(0, min(3, len(unknowns)))))
        return ("row", tuple((v, rng.choice((-3, -2, -1, 1, 2, 3))) for v in chosen), rng.randint(-6, 8))
    return ("any", tuple(
        (rng.choice(unknowns), rng.choice(("<=", ">=", "=", "!=")), rng.randint(-3, 5))
        for _ in range(rng.choice((0, 1, 1, 2, 2, 3)))
    ))


def random_body(rng, many):
    kind = rng.choice(("row", "any", "when", "different", "table", "element", "times"))
    terms = tuple((v, rng.choice((-2, -1, 1, 2))) for v in range(many) if rng.random() < 0.7)
    linear = (terms, rng.choice(("<=", ">=", "=")), rng.randint(-4, 6))
    literal = (rng.randrange(many), rng.choice(("<=", ">=", "=", "!=")), rng.randint(-2, 4))
    if kind == "row":
        return ("row",) + linear
    if kind == "any":
        return ("any", tuple({literal: True, (rng.randrange(many), "=", rng.randint(-2, 4)): True}))
    if kind == "when":
        return ("when", literal) + linear
    if kind == "different":
        return ("different", tuple(rng.sample(range(many), rng.randint(2, many))))
    if kind == "table":
        chosen = tuple(rng.sample(range(many), rng.randint(1, many)))
        return ("table", chosen, tuple(tuple(rng.randint(-2, 4) for _ in chosen) for _ in range(rng.randint(1, 5))))
    if kind == "element":
        entries = tuple(rng.randint(-2, 4) for _ in range(rng.randint(1, 5)))
        return ("element", rng.randrange(many), entries, rng.randrange(many))
    return ("times", rng.randrange(many), rng.randrange(many), rng.randrange(many))
