"""The twelve rules by which a step follows from a model and from earlier steps."""

from commonground.facts.choices import choices_of, cost_of, remaining_for
from commonground.facts.domains import Domains
from commonground.facts.fact import as_row, fact_holds, implies, is_contradiction, negation, unknowns_in
from commonground.facts.parts import label_in, numbers_in
from commonground.model.body import body_holds, unknowns_of
from commonground.model.literal import rows_of

GREATEST_COST = 400


def bound_follows(model, entries, step):
    """The fact is a bound of the unknown v as the model has it, or a weaker one."""
    fact, _, v = step
    if not 0 <= v < model.many() or fact[0] != "row":
        return False
    _, terms, rhs = fact
    if terms == ((v, 1),):
        return rhs >= model.high(v)
    return terms == ((v, -1),) and rhs >= -model.low(v)


def given_follows(model, entries, step):
    """The fact is what a row body or an any body states."""
    fact, _, label = step
    body = model.body(label)
    if body[0] == "row":
        _, terms, relation, rhs = body
        return fact in rows_of(terms, relation, rhs)
    return body[0] == "any" and fact == body


def suppose_follows(model, entries, step):
    """The fact may be supposed, as it has a negation."""
    return negation(step[0]) is not None


def sum_follows(model, entries, step):
    """The fact is a sum of positive multiples of rows, or a weaker row."""
    fact, _, pairs = step
    totals = {}
    rhs = 0
    for i, m in pairs:
        row = as_row(entries[i][0])
        if m < 1 or row is None:
            return False
        for v, c in row[1]:
            totals[v] = totals.get(v, 0) + m * c
        rhs = rhs + m * row[2]
    terms = tuple((v, totals[v]) for v in sorted(totals) if totals[v] != 0)
    return fact[0] == "row" and fact[1] == terms and fact[2] >= rhs


def divide_follows(model, entries, step):
    """The fact is a row divided by d, its right-hand side rounded down, or a weaker row."""
    fact, _, i, d = step
    row = as_row(entries[i][0])
    if d < 1 or row is None or fact[0] != "row":
        return False
    if any(c % d != 0 for _, c in row[1]):
        return False
    return fact[1] == tuple((v, c // d) for v, c in row[1]) and fact[2] >= row[2] // d


def look_follows(model, entries, step):
    """The fact holds wherever the body and the hints hold, as looking at all choices shows."""
    fact, _, label, numbers = step
    body = model.body(label)
    hints = [entries[i][0] for i in numbers]
    unknowns = unknowns_of(body)
    if not all(v in unknowns for read in [fact, *hints] for v in unknowns_in(read)):
        return False
    domains = remaining_for(model, body, fact, hints)
    if not domains.all_left():
        return True
    if cost_of(body, domains) > GREATEST_COST:
        return False
    for choice in choices_of(body, domains):
        if body_holds(body, choice) and not fact_holds(fact, choice) and all_hold(hints, choice):
            return False
    return True


def all_hold(facts, choice):
    """Return True if all facts hold at the choice."""
    return all(fact_holds(fact, choice) for fact in facts)


def apart_follows(model, entries, step):
    """Two unknowns of a different body do not both have the value a."""
    fact, _, label = step
    body = model.body(label)
    if body[0] != "different" or fact[0] != "any" or len(fact[1]) != 2:
        return False
    (x, first, a), (y, second, b) = fact[1]
    if first != "!=" or second != "!=" or a != b:
        return False
    return x != y and x in body[1] and y in body[1]


def then_follows(model, entries, step):
    """The fact is a row of a when body whose literal is known to hold."""
    fact, _, label, i = step
    body = model.body(label)
    if body[0] != "when":
        return False
    _, literal, terms, relation, rhs = body
    return implies(entries[i][0], ("any", (literal,))) and fact in rows_of(terms, relation, rhs)


def unit_follows(model, entries, step):
    """Where the fact fails, the hints in their order lead to a conflict."""
    fact, _, numbers = step
    domains = Domains(model, list(range(model.many())))
    if not domains.deny(fact):
        return True
    for i in numbers:
        hint = entries[i][0]
        demands = domains.demands(hint)
        if demands is None:
            return True
        if hint[0] == "any" and not demands:
            return False
        for literal in demands:
            domains.keep(literal)
    return False


def cases_follows(model, entries, step):
    """Both of two opposite suppositions lead to the fact."""
    fact, _, i, j, s, t = step
    if entries[s][1] != "suppose" or entries[t][1] != "suppose":
        return False
    if entries[t][0] != negation(entries[s][0]):
        return False
    return implies(entries[i][0], fact) and implies(entries[j][0], fact)


def absurd_follows(model, entries, step):
    """The fact is arbitrary, as there is a contradiction."""
    return is_contradiction(entries[step[2]][0])


def weaken_follows(model, entries, step):
    """The fact is implied by an earlier one."""
    return implies(entries[step[2]][0], step[0])


RULES = {
    "bound": bound_follows,
    "given": given_follows,
    "suppose": suppose_follows,
    "sum": sum_follows,
    "divide": divide_follows,
    "look": look_follows,
    "apart": apart_follows,
    "then": then_follows,
    "unit": unit_follows,
    "cases": cases_follows,
    "absurd": absurd_follows,
    "weaken": weaken_follows,
}


def follows(model, entries, step):
    """Return True if the step follows from the model and the entries, None being one that is asleep."""
    if not refers_well(model, entries, step):
        return False
    follows_by = RULES[step[1]]
    return follows_by(model, entries, step)


def refers_well(model, entries, step):
    """Return True if all unknowns, labels and steps exist that the step states or refers to."""
    label = label_in(step)
    if label is not None and not model.has(label):
        return False
    facts = [step[0]]
    for i in numbers_in(step):
        if not 0 <= i < len(entries) or entries[i] is None:
            return False
        facts.append(entries[i][0])
    many = model.many()
    return all(0 <= part[0] < many for fact in facts for part in fact[1])
