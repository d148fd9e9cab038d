"""What the promises say of look, unit and bodies, done once more in the plainest way, with lists of values."""

import itertools
import operator

SIGNS = {"<=": operator.le, ">=": operator.ge, "=": operator.eq, "!=": operator.ne}


def total(terms, at):
    return sum(c * at[v] for v, c in terms)


def holds(fact, at):
    """Tell whether a fact holds, at being a point or a dict."""
    if fact[0] == "row":
        return total(fact[1], at) <= fact[2]
    return any(SIGNS[relation](at[v], a) for v, relation, a in fact[1])


def body_is_met(body, at):
    kind = body[0]
    if kind == "row":
        return SIGNS[body[2]](total(body[1], at), body[3])
    if kind == "any":
        return holds(body, at)
    if kind == "when":
        return not holds(("any", (body[1],)), at) or SIGNS[body[3]](total(body[2], at), body[4])
    if kind == "different":
        return all(at[x] != at[y] for x, y in itertools.combinations(body[1], 2))
    if kind == "table":
        return [at[v] for v in body[1]] in [list(row) for row in body[2]]
    if kind == "element":
        return at[body[1]] in range(len(body[2])) and body[2][at[body[1]]] == at[body[3]]
    return at[body[1]] * at[body[2]] == at[body[3]]


def body_unknowns(body):
    kind = body[0]
    found = {
        "row": lambda: [v for v, _ in body[1]],
        "any": lambda: [v for v, _, _ in body[1]],
        "when": lambda: [body[1][0]] + [v for v, _ in body[2]],
        "different": lambda: body[1],
        "table": lambda: body[1],
        "element": lambda: (body[1], body[3]),
        "times": lambda: body[1:],
    }[kind]()
    return sorted(set(found))


def literal_test(fact):
    """Return the unknown and a test of its values if the fact counts as a literal, otherwise None."""
    if len(fact[1]) != 1:
        return None
    if fact[0] == "any":
        v, relation, a = fact[1][0]
        return v, lambda x: SIGNS[relation](x, a)
    v, c = fact[1][0]
    return v, lambda x: c * x <= fact[2]


def values_at_first(model, unknowns):
    return {v: list(range(model.low(v), model.high(v) + 1)) for v in unknowns}


def without_clause(values, fact):
    """Remove the values that satisfy a literal of the clause."""
    for v, relation, a in fact[1]:
        values[v] = [x for x in values[v] if not SIGNS[relation](x, a)]


def look(model, facts, fact, label, hints):
    """Tell whether a look step follows, facts being those of the earlier steps."""
    body = model.body(label)
    hints = [facts[i] for i in hints]
    unknowns = body_unknowns(body)
    for read in [fact] + hints:
        if any(part[0] not in unknowns for part in read[1]):
            return False
    values = values_at_first(model, unknowns)
    if fact[0] == "any":
        without_clause(values, fact)
    for hint in hints:
        if literal_test(hint) is not None:
            v, test = literal_test(hint)
            values[v] = [x for x in values[v] if test(x)]
    if any(not left for left in values.values()):
        return True
    counted = unknowns
    if body[0] in ("table", "element"):
        counted = []
    elif body[0] == "times":
        counted = sorted(set(body[1:3]))
    cost = 1
    for v in counted:
        cost *= len(values[v])
    if cost > 400:
        return False
    return all(holds(fact, at) for at in met_choices(body, unknowns, values) if all(holds(h, at) for h in hints))


def met_choices(body, unknowns, values):
    """Return the choices of remaining values at which the body holds."""
    if body[0] == "table":
        choices = [dict(zip(body[1], row)) for row in body[2]]
    elif body[0] == "element":
        choices = [{body[3]: body[2][x], body[1]: x} for x in values[body[1]] if x in range(len(body[2]))]
    elif body[0] == "times":
        pairs = itertools.product(values[body[1]], values[body[2]])
        choices = [{body[3]: x * y, body[1]: x, body[2]: y} for x, y in pairs if body[1] != body[2] or x == y]
    else:
        choices = [dict(zip(unknowns, chosen)) for chosen in itertools.product(*[values[v] for v in unknowns])]
    return [at for at in choices if all(at[v] in values[v] for v in unknowns) and body_is_met(body, at)]


def unit(model, facts, fact, hints):
    """Tell whether a unit step follows, facts being those of the earlier steps."""
    values = values_at_first(model, range(model.many()))
    if fact[0] == "any":
        without_clause(values, fact)
        if any(not left for left in values.values()):
            return True
    elif not row_applied(values, [(v, -c) for v, c in fact[1]], -fact[2] - 1):
        return True
    for i in hints:
        hint = facts[i]
        if hint[0] == "row":
            if not row_applied(values, hint[1], hint[2]):
                return True
            continue
        live = [(v, r, a) for v, r, a in hint[1] if any(SIGNS[r](x, a) for x in values[v])]
        if not live:
            return True
        if len(live) > 1:
            return False
        v, r, a = live[0]
        values[v] = [x for x in values[v] if SIGNS[r](x, a)]
    return False


def row_applied(values, terms, rhs):
    """Remove what the row excludes; return False if the row is a conflict."""
    least = {v: min(c * x for x in values[v]) for v, c in terms}
    if sum(least.values()) > rhs:
        return False
    others = {v: sum(least.values()) - least[v] for v, _ in terms}
    for v, c in terms:
        values[v] = [x for x in values[v] if c * x + others[v] <= rhs]
    return True
