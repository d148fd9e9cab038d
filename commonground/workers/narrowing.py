"""Narrow boxes: what facts and bodies ask of a box, and the greatest box that is consistent with all of them.

The box may be a pair of tuples or of lists.
"""

from commonground.facts.fact import as_literal, as_row
from commonground.ledger.bounding import contradiction_in
from commonground.model.body import unknowns_of
from commonground.model.literal import negated, rows_of
from commonground.workers.boxes import rest_after
from commonground.workers.ends import Ends
from commonground.workers.reach import fails_in, least_in, may_hold
from commonground.workers.supports import is_asked, supports_in

NEVER = ("any", ())


def half_lines(literal):
    """Return the list of the literals "<=" and ">=" that state the literal together; there are none for "!="."""
    v, relation, a = literal
    if relation == "=":
        return [(v, ">=", a), (v, "<=", a)]
    if relation == "!=":
        return []
    return [literal]


def bound_row(bound):
    """Return the row that states a literal with the relation "<=" or ">="."""
    return as_row(("any", (bound,)))


def box_of(ledger):
    """Return the box that the awake open entries of the ledger leave, or None."""
    if contradiction_in(ledger) is not None:
        return None
    bounds = []
    for i in ledger.open_entries():
        literal = as_literal(ledger.fact(i))
        if literal is not None:
            bounds += [bound_row(bound) for bound in half_lines(literal)]
    return rest_after(ledger.model, bounds)


def is_possible(box, literal):
    """Return True if some value of its unknown in the box satisfies the literal."""
    return may_hold(box, literal)


def is_sure(box, literal):
    """Return True if every value of its unknown in the box satisfies the literal."""
    return not may_hold(box, negated(literal))


def keeps(box, literal):
    """Return True if the box keeps the literal."""
    lows, highs = box
    v, relation, a = literal
    if relation == "!=":
        return a not in (lows[v], highs[v])
    return is_sure(box, literal)


def least_sum(box, terms):
    """Return the least sum that the terms have in the box."""
    return least_in(box, terms)


def cuts_to_keep(box, literal):
    """Return the list of the bounds that a box must get to keep the literal, which is possible in it."""
    lows, highs = box
    v, relation, a = literal
    if relation != "!=":
        return [bound for bound in half_lines(literal) if not keeps(box, bound)]
    if lows[v] == a:
        return [(v, ">=", a + 1)]
    if highs[v] == a:
        return [(v, "<=", a - 1)]
    return []


def clause_cuts(box, clause):
    """Return the list of the bounds that the clause asks for, or None if no literal is possible."""
    possible = [literal for literal in clause[1] if may_hold(box, literal)]
    if not possible:
        return None
    if len(possible) > 1:
        return []
    return cuts_to_keep(box, possible[0])


def row_cuts(box, row):
    """Return the list of the bounds that the row asks for, or None if its least sum is too great."""
    lows, highs = box
    _, terms, rhs = row
    room = rhs - least_in(box, terms)
    if room < 0:
        return None
    cuts = []
    for v, c in terms:
        if abs(c) * (highs[v] - lows[v]) > room:
            cuts.append((v, "<=", lows[v] + room // c) if c > 0 else (v, ">=", highs[v] - room // -c))
    return cuts


def fact_cuts(box, fact):
    """Return the list of the bounds that the box must get to be consistent with the fact, or None if it cannot be."""
    if fact[0] == "row":
        return row_cuts(box, fact)
    return clause_cuts(box, fact)


def row_consistent(box, row):
    """Return True if the box is consistent with the row."""
    return row_cuts(box, row) == []


def clause_consistent(box, clause):
    """Return True if the box is consistent with the clause."""
    return clause_cuts(box, clause) == []


def facts_asked(box, body):
    """Return the list of facts that follow from the body in the box.

    The box is consistent with the body if and only if it is consistent with all of them.
    """
    kind = body[0]
    if kind == "row":
        _, terms, relation, rhs = body
        return rows_of(terms, relation, rhs)
    if kind == "any":
        return [body]
    if kind == "when":
        return facts_of_when(box, body)
    if kind == "different":
        return facts_of_different(box, body)
    return facts_of_supports(box, body)


def facts_of_when(box, body):
    """Return the rows if the literal is sure, and that it fails if it is not and a row cannot hold."""
    _, literal, terms, relation, rhs = body
    rows = rows_of(terms, relation, rhs)
    if is_sure(box, literal):
        return rows
    if any(fails_in(box, row) for row in rows):
        return [("any", (negated(literal),))]
    return []


def facts_of_different(box, body):
    """Return a clause for each unknown with one value and each other one that has an end there."""
    lows, highs = box
    facts = []
    for x in body[1]:
        if lows[x] == highs[x]:
            a = lows[x]
            others = [y for y in body[1] if y != x and a in (lows[y], highs[y])]
            facts += [("any", tuple((v, "!=", a) for v in sorted([x, y]))) for y in others]
    return facts


def facts_of_supports(box, body):
    """Return the ends of the values in supports where they are narrower, or a contradiction if there is no support."""
    if not is_asked(box, body):
        return []
    unknowns, rows = supports_in(box, body)
    if not rows:
        return [NEVER]
    facts = []
    for k, v in enumerate(unknowns):
        worths = [row[k] for row in rows]
        for bound in [(v, ">=", min(worths)), (v, "<=", max(worths))]:
            if not keeps(box, bound):
                facts.append(bound_row(bound))
    return facts


def body_consistent(box, body):
    """Return True if the box is consistent with the body."""
    for fact in facts_asked(box, body):
        if fact_cuts(box, fact) != []:
            return False
    return True


def body_stating(fact):
    """Return the body that states the fact."""
    if fact[0] == "row":
        return ("row", fact[1], "<=", fact[2])
    return fact


def is_bound(fact):
    """Tell whether the fact is kept by all of a box as soon as the box is consistent with it."""
    literal = as_literal(fact)
    return literal is not None and literal[1] != "!="


def narrow_box(model, facts):
    """Return the greatest box that is consistent with all bodies of the model and with all facts, or None."""
    ends = Ends(model)
    # What bounds ask for is kept from then on, so they are asked once.
    for fact in facts:
        if is_bound(fact) and narrow_by(ends, body_stating(fact)) is None:
            return None
    bodies = [model.body(label) for label in model.labels()]
    return close(ends, bodies + [body_stating(fact) for fact in facts if not is_bound(fact)])


def close(ends, bodies):
    """Return the greatest box between the ends that is consistent with all of the bodies, or None."""
    touched = [[] for _ in ends.lows]
    for k, body in enumerate(bodies):
        for v in unknowns_of(body):
            touched[v].append(k)
    waiting = {k: True for k in range(len(bodies))}
    while waiting:
        for k in list(waiting):
            del waiting[k]
            changed = narrow_by(ends, bodies[k])
            if changed is None:
                return None
            for v in changed:
                waiting.update({j: True for j in touched[v]})
    return ends.frozen()


def narrow_by(ends, body):
    """Cut off what the body asks for now, and return the list of the unknowns that have changed, or None if none can.

    It may have to be asked again, also if nobody else changes the ends.
    """
    changed = {}
    for fact in facts_asked(ends.box(), body):
        cuts = fact_cuts(ends.box(), fact)
        if cuts is None:
            return None
        for cut in cuts:
            if not ends.cut(cut):
                return None
            changed[cut[0]] = True
    return list(changed)
