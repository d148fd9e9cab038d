"""What is known of sets of soft constraints of a model, with what shows it."""

from commonground.conflict.decide import decide
from commonground.conflict.hitting import is_within
from commonground.facts.parts import label_in


class Evidence:
    """Remembers solutions and conflicts, so that as few sets as possible have to be decided."""

    def __init__(self, model, soft):
        self.model = model.copy()
        self.hard = [label for label in model.labels() if label not in soft]
        # Points at which the hard constraints hold, each with the soft labels that are broken there.
        self.solved = []
        # Steps of certificates, each with the soft labels that it uses.
        self.refuted = []

    def answer(self, soft):
        """Return a solution of the model with these soft labels, or a certificate, as decide does."""
        for point, broken in self.solved:
            if not any(label in soft for label in broken):
                return ("point", point)
        for steps, used in self.refuted:
            if is_within(used, soft):
                return ("none", steps)
        told = decide(self.model, [*self.hard, *soft])
        if told[0] == "point":
            self.solved.append((told[1], self.model.broken(told[1])))
        else:
            used = sorted({label_in(step) for step in told[1] if label_in(step) is not None})
            self.refuted.append((told[1], [label for label in used if label not in self.hard]))
        return told

    def is_conflict(self, soft):
        """Return True if the model with these soft labels has no solution."""
        return self.answer(soft)[0] == "none"

    def smallest_within(self, soft):
        """Return the smallest conflict that is left of this one when its labels are tried one by one."""
        kept = list(soft)
        for label in soft:
            rest = [other for other in kept if other != label]
            if self.is_conflict(rest):
                kept = rest
        return kept
