"""Relations, literals, terms and rows."""


def relation_holds(relation, left, right):
    """Return True if the integer left stands in the relation to the integer right."""
    if relation == "<=":
        return left <= right
    if relation == ">=":
        return left >= right
    if relation == "=":
        return left == right
    return left != right


def literal_holds(literal, worth):
    """Return True if the literal holds where its unknown has the value worth."""
    _, relation, a = literal
    return relation_holds(relation, worth, a)


def negated(literal):
    """Return the opposite literal."""
    v, relation, a = literal
    if relation == "<=":
        return (v, ">=", a + 1)
    if relation == ">=":
        return (v, "<=", a - 1)
    if relation == "=":
        return (v, "!=", a)
    return (v, "=", a)


def literal_implies(first, second):
    """Return True if every integer that satisfies the first literal satisfies the second one."""
    v, relation, a = first
    if v != second[0]:
        return False
    if relation == "=":
        return literal_holds(second, a)
    if relation == "!=":
        return first == second
    return half_line_implies(relation, a, second)


def half_line_implies(relation, a, literal):
    """Return True if all integers in the relation "<=" or ">=" to a satisfy the literal."""
    # A half-line has no end on one side, so "=" and the other half-line never hold on all of it.
    if literal[1] == relation:
        return literal_holds(literal, a)
    return literal[1] == "!=" and not relation_holds(relation, literal[2], a)


def terms_sum(terms, point):
    """Return the sum of the terms at the point."""
    return sum(c * point[v] for v, c in terms)


def negated_terms(terms):
    """Return the terms with the negated numbers c."""
    return tuple((v, -c) for v, c in terms)


def rows_of(terms, relation, rhs):
    """Return the list of the rows that state the linear condition, whose relation is not "!="."""
    below = ("row", terms, rhs)
    above = ("row", negated_terms(terms), -rhs)
    if relation == "<=":
        return [below]
    if relation == ">=":
        return [above]
    return [below, above]
