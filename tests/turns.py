"""What tests of workers share: ledgers with standings, answers that are checked, and what others write."""

from commonground.errors import Refused
from commonground.facts.judge import accepts
from commonground.ledger.bounding import contradiction_in, entry_for
from commonground.ledger.certificate import cut
from commonground.ledger.ledger import Ledger
from commonground.ledger.standing import Standing
from commonground.model.plain import best_plain
from tests.makers import plain_solutions, random_step


def held(model, goal=None):
    """Return a ledger of the model, if need be with this goal, and a standing of it."""
    if goal is not None:
        model.aim(goal)
    ledger = Ledger(model)
    return ledger, Standing(ledger)


def check_answer(test, ledger, standing):
    """Check that the answer is that of plain looking, and that the judge accepts the cut; return the value or None."""
    model = ledger.model
    best = best_plain(model)
    test.assertEqual(best is None, plain_solutions(model) == [])
    if best is None:
        test.assertIsNone(standing.best())
        certificate = ("none", cut(ledger, contradiction_in(ledger)))
    else:
        worth, point = standing.best()
        test.assertEqual(worth, best[0])
        certificate = ("best", point, cut(ledger, entry_for(ledger, worth)))
    test.assertIs(accepts(model, certificate), True)
    return None if best is None else best[0]


def others_write(rng, ledger, tries):
    """Offer random steps to the ledger, whose model has three unknowns at least."""
    if ledger.model.labels():
        for _ in range(tries):
            try:
                ledger.offer(random_step(rng, ledger.model, list(ledger)))
            except Refused:
                pass
