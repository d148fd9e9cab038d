"""The ledger: steps that were admitted, awake as long as they follow from the model as it is."""

from commonground.errors import NoSuch, Refused, TooLarge
from commonground.facts.judge import refers_to, under_of
from commonground.facts.parts import label_in, numbers_behind
from commonground.facts.rules import follows
from commonground.model.body import unknowns_of

MOST_ENTRIES = 20000


def reads_bounds_of(model, step, v):
    """Return False only if whether the step follows cannot depend on the bounds of the unknown v."""
    rule = step[1]
    if rule == "bound":
        return step[2] == v
    if rule == "look":
        return model.has(step[2]) and v in unknowns_of(model.body(step[2]))
    return rule == "unit"


class Ledger:
    """A model with entries; it shares neither with the model from which it is made."""

    def __init__(self, model):
        self.model = model.copy()
        self.edits = 0
        self.steps = []
        # For each entry: its step, or None if it is asleep.
        self.present = []
        # For each entry: whether its step follows as soon as all entries to which it refers are awake.
        self.ready = []
        self.above = []
        # The awake open entries, ascending; workers ask for them far more often than there are edits.
        self.opened = []
        self.stating = {}
        self.supposing = {}

    def __iter__(self):
        return iter(self.steps)

    def offer(self, step):
        """Admit the step as the next entry and return its number."""
        number = len(self.steps)
        if number >= MOST_ENTRIES:
            raise TooLarge()
        if not follows(self.model, self.present, step):
            raise Refused()
        self.enter(number, step)
        return number

    def enter(self, number, step):
        """Make the step, which follows, the entry with this number."""
        under = self.under_next(step)
        self.above.append(under)
        self.stating.setdefault((step[0], under), []).append(number)
        if step[1] == "suppose":
            self.supposing.setdefault(step[0], []).append(number)
        self.steps.append(step)
        self.present.append(step)
        self.ready.append(True)
        if under == ():
            self.opened.append(number)

    def put(self, label, body):
        """Add a constraint to the model."""
        self.model.put(label, body)
        self.judge_again(self.users(label))

    def withdraw(self, label):
        """Remove a constraint from the model."""
        self.model.withdraw(label)
        self.judge_again(self.users(label))

    def move(self, v, low, high):
        """Set the bounds of an unknown of the model."""
        self.model.move(v, low, high)
        self.judge_again([i for i, step in enumerate(self.steps) if reads_bounds_of(self.model, step, v)])

    def aim(self, goal):
        """Set the goal of the model."""
        self.model.aim(goal)
        # No rule reads the goal, so no entry falls asleep or wakes.
        self.judge_again([])

    def users(self, label):
        """Return the list of the entries that use the label."""
        return [i for i, step in enumerate(self.steps) if label_in(step) == label]

    def judge_again(self, touched):
        """Count an edit, and find what is awake now if it may have changed only the touched entries by itself."""
        self.edits += 1
        for i in touched:
            # The facts of the earlier entries never change, so an entry is ready or not whoever is awake.
            self.ready[i] = follows(self.model, self.steps, self.steps[i])
        if touched:
            self.wake()

    def wake(self):
        """Make the entries awake that are ready and refer to entries that are awake only."""
        for i, step in enumerate(self.steps):
            awake = self.ready[i] and all(self.present[k] is not None for k in refers_to(step))
            self.present[i] = step if awake else None
        self.opened = [i for i, step in enumerate(self.present) if step is not None and self.above[i] == ()]

    def check(self, i):
        """Raise NoSuch unless there is an entry i."""
        if not 0 <= i < len(self.steps):
            raise NoSuch(i)

    def many(self):
        """Return the number of entries."""
        return len(self.steps)

    def step(self, i):
        """Return the step of the entry i."""
        self.check(i)
        return self.steps[i]

    def fact(self, i):
        """Return the fact of the entry i."""
        self.check(i)
        return self.steps[i][0]

    def awake(self, i):
        """Return True if the entry i is awake."""
        self.check(i)
        return self.present[i] is not None

    def under(self, i):
        """Return what the entry i is under."""
        self.check(i)
        return self.above[i]

    def under_next(self, step):
        """Return what the step, which refers to entries that exist, would be under as the next entry."""
        return under_of(self.above, len(self.steps), step)

    def is_open(self, i):
        """Return True if the entry i is under nothing."""
        return self.under(i) == ()

    def find_under(self, fact, under):
        """Return the lowest awake entry with an equal fact that is under just these, or None."""
        return self.first_awake(self.stating.get((fact, under), []))

    def find_supposed(self, fact):
        """Return the lowest awake supposition with an equal fact, or None."""
        return self.first_awake(self.supposing.get(fact, []))

    def first_awake(self, numbers):
        """Return the first one of the entries that is awake, or None."""
        for i in numbers:
            if self.present[i] is not None:
                return i
        return None

    def find(self, fact):
        """Return the lowest awake open entry with an equal fact, or None."""
        return self.find_under(fact, ())

    def open_entries(self):
        """Return the list of the awake open entries, ascending."""
        return list(self.opened)

    def entries_under(self, under):
        """Return the list of the awake entries that are under just these, ascending."""
        return [i for i, above in enumerate(self.above) if above == under and self.present[i] is not None]

    def labels_behind(self, i):
        """Return the list of the labels that the entry i and all that it rests on use, ascending."""
        self.check(i)
        labels = [label_in(self.steps[k]) for k in numbers_behind(self.steps, i)]
        return sorted({label for label in labels if label is not None})
