"""Facts: rows and clauses, what they count as, and what they imply."""

from commonground.model.literal import literal_holds, literal_implies, negated, negated_terms, terms_sum


def fact_holds(fact, point):
    """Return True if the fact holds at the point."""
    if fact[0] == "row":
        return terms_sum(fact[1], point) <= fact[2]
    return any(literal_holds(literal, point[literal[0]]) for literal in fact[1])


def is_contradiction(fact):
    """Return True if the fact is a row without terms that fails, or a clause without literals."""
    return fact[1] == () and (fact[0] == "any" or fact[2] < 0)


def as_row(fact):
    """Return the row that the fact counts as, or None."""
    if fact[0] == "row":
        return fact
    if len(fact[1]) != 1:
        return None
    v, relation, a = fact[1][0]
    if relation == "<=":
        return ("row", ((v, 1),), a)
    if relation == ">=":
        return ("row", ((v, -1),), -a)
    return None


def as_literal(fact):
    """Return the literal that the fact counts as, or None."""
    if len(fact[1]) != 1:
        return None
    if fact[0] == "any":
        return fact[1][0]
    v, c = fact[1][0]
    if c > 0:
        return (v, "<=", fact[2] // c)
    return (v, ">=", -(fact[2] // -c))


def negation(fact):
    """Return the fact that holds exactly where this one does not, or None."""
    if fact[0] == "row":
        return ("row", negated_terms(fact[1]), -fact[2] - 1)
    if len(fact[1]) != 1:
        return None
    return ("any", (negated(fact[1][0]),))


def implies(first, second):
    """Return True if the first fact implies the second one."""
    if is_contradiction(first):
        return True
    if second[0] == "row":
        return implies_row(first, second)
    return implies_clause(first, second)


def implies_row(first, second):
    """Tell whether a fact that is no contradiction implies a row."""
    row = as_row(first)
    if row is not None and row[1] == second[1] and row[2] <= second[2]:
        return True
    literal = as_literal(first)
    bound = as_literal(second)
    return literal is not None and bound is not None and literal_implies(literal, bound)


def implies_clause(first, second):
    """Tell whether a fact that is no contradiction implies a clause."""
    if first[0] == "any" and occur_in(first[1], second[1]):
        return True
    literal = as_literal(first)
    return literal is not None and any(literal_implies(literal, other) for other in second[1])


def occur_in(literals, others):
    """Tell whether each of the literals occurs among the others."""
    stated = set(others)
    for literal in literals:
        if literal not in stated:
            return False
    return True


def unknowns_in(fact):
    """Return the list of the unknowns of the fact, ascending."""
    return sorted({part[0] for part in fact[1]})
