"""Models: unknowns with bounds, labelled constraints and a goal."""

from commonground.errors import BadModel, NoSuch, Taken, TooLarge
from commonground.model.body import body_fits, body_holds, is_label, side_fits, terms_fit
from commonground.model.literal import negated_terms, terms_sum

MOST_UNKNOWNS = 60
MOST_CONSTRAINTS = 200
LEAST_BOUND = -1000
GREATEST_BOUND = 1000


def bounds_fit(low, high):
    """Return True if an unknown may have these bounds."""
    return LEAST_BOUND <= low <= high <= GREATEST_BOUND


def goal_fits(goal, many):
    """Return True if the goal fits a model with this many unknowns."""
    sense, terms, constant = goal
    return sense in ("max", "min") and terms_fit(terms, many) and side_fits(constant)


class Model:
    """A model: it can be edited, and it tells what holds at a point."""

    def __init__(self, unknowns):
        if not 1 <= len(unknowns) <= MOST_UNKNOWNS:
            raise BadModel()
        self.numbers = {}
        self.names = []
        self.lows = []
        self.highs = []
        self.bodies = {}
        self.aimed = ("max", (), 0)
        for name, low, high in unknowns:
            self.admit(name, low, high)

    def admit(self, name, low, high):
        """Add an unknown; only a new model does so."""
        if not is_label(name) or not bounds_fit(low, high):
            raise BadModel()
        if name in self.numbers:
            raise Taken(name)
        self.numbers[name] = len(self.names)
        self.names.append(name)
        self.lows.append(low)
        self.highs.append(high)

    def many(self):
        """Return the number of unknowns."""
        return len(self.names)

    def check_unknown(self, v):
        """Raise NoSuch unless v is the number of an unknown."""
        if not 0 <= v < len(self.names):
            raise NoSuch(v)

    def name(self, v):
        """Return the name of the unknown v."""
        self.check_unknown(v)
        return self.names[v]

    def low(self, v):
        """Return the lower bound of the unknown v."""
        self.check_unknown(v)
        return self.lows[v]

    def high(self, v):
        """Return the upper bound of the unknown v."""
        self.check_unknown(v)
        return self.highs[v]

    def number(self, name):
        """Return the number of the unknown with this name."""
        if name not in self.numbers:
            raise NoSuch(name)
        return self.numbers[name]

    def labels(self):
        """Return the list of the labels of the constraints, in order."""
        return list(self.bodies)

    def has(self, label):
        """Return True if a constraint has this label."""
        return label in self.bodies

    def body(self, label):
        """Return the body of the constraint with this label."""
        if label not in self.bodies:
            raise NoSuch(label)
        return self.bodies[label]

    def goal(self):
        """Return the goal."""
        return self.aimed

    def put(self, label, body):
        """Add a constraint after the others."""
        if not is_label(label):
            raise BadModel()
        if label in self.bodies:
            raise Taken(label)
        if not body_fits(body, self.many()):
            raise BadModel()
        if len(self.bodies) >= MOST_CONSTRAINTS:
            raise TooLarge()
        self.bodies[label] = body

    def withdraw(self, label):
        """Remove a constraint."""
        if label not in self.bodies:
            raise NoSuch(label)
        del self.bodies[label]

    def move(self, v, low, high):
        """Set the bounds of an unknown."""
        self.check_unknown(v)
        if not bounds_fit(low, high):
            raise BadModel()
        self.lows[v] = low
        self.highs[v] = high

    def aim(self, goal):
        """Set the goal."""
        if not goal_fits(goal, self.many()):
            raise BadModel()
        self.aimed = goal

    def inside(self, point):
        """Return True if the point has one value within the bounds for each unknown."""
        if len(point) != self.many():
            return False
        return all(low <= a <= high for low, a, high in zip(self.lows, point, self.highs))

    def is_solution(self, point):
        """Return True if the point is inside and all bodies hold at it."""
        return self.inside(point) and all(body_holds(self.bodies[label], point) for label in self.bodies)

    def broken(self, point):
        """Return the list of the labels whose bodies do not hold at the point, in order."""
        return [label for label in self.bodies if not body_holds(self.bodies[label], point)]

    def worth(self, point):
        """Return the value of the point."""
        _, terms, constant = self.aimed
        return terms_sum(terms, point) + constant

    def is_better(self, first, second):
        """Return True if the value first is better than the value second."""
        if self.aimed[0] == "max":
            return first > second
        return first < second

    def goal_row(self, worth):
        """Return the row that states that no better value than this one is reached."""
        sense, terms, constant = self.aimed
        if sense == "max":
            return ("row", terms, worth - constant)
        return ("row", negated_terms(terms), constant - worth)

    def improving_row(self, worth):
        """Return the row that states that a better value than this one is reached."""
        sense, terms, constant = self.aimed
        if sense == "max":
            return ("row", negated_terms(terms), constant - worth - 1)
        return ("row", terms, worth - constant - 1)

    def copy(self):
        """Return a new model that tells the same."""
        unknowns, constraints, goal = self.told()
        other = Model(unknowns)
        for label, body in constraints:
            other.put(label, body)
        other.aim(goal)
        return other

    def told(self):
        """Return the unknowns, the constraints and the goal as a tuple."""
        unknowns = tuple(zip(self.names, self.lows, self.highs))
        constraints = tuple((label, self.bodies[label]) for label in self.bodies)
        return (unknowns, constraints, self.aimed)
