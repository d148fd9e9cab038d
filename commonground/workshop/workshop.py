"""The workshop: a ledger with a standing best point, and six workers who take turns."""

from commonground.errors import NoSuch, Stopped, Unfinished
from commonground.ledger.bounding import bound_of, contradiction_in, entry_for
from commonground.ledger.certificate import cut
from commonground.ledger.ledger import Ledger
from commonground.ledger.pen import Pen
from commonground.ledger.standing import Standing
from commonground.workers.branch import Branch
from commonground.workers.chart import Chart
from commonground.workers.cuts import Cuts
from commonground.workers.learn import Learn
from commonground.workers.linear import Linear
from commonground.workers.narrow import Narrow
from commonground.workshop.plain_bound import write_plain_bound

NAMES = ("narrow", "learn", "linear", "cuts", "branch", "chart")
SETTLING = ("learn", "branch")


def check_name(name, names):
    """Raise NoSuch unless the name is one of these."""
    if name not in names:
        raise NoSuch(name)


def new_worker(name):
    """Return a new worker with this name, which remembers nothing."""
    if name == "narrow":
        return Narrow()
    if name == "learn":
        return Learn()
    if name == "linear":
        return Linear()
    if name == "cuts":
        return Cuts()
    if name == "branch":
        return Branch()
    return Chart()


class Workshop:
    """Workers of different kinds that solve one model by one ledger."""

    def __init__(self, model):
        self.ledger = Ledger(model)
        self.standing = Standing(self.ledger)
        self.workers = {name: new_worker(name) for name in NAMES}

    def turn(self, name, *, room=None):
        """Let the worker take one turn; return True if it wrote an entry or showed a better point."""
        check_name(name, NAMES)
        write_plain_bound(self.ledger)
        best = self.standing.best()
        pen = Pen(self.ledger, self.standing, room)
        worker = self.workers[name]
        try:
            worker.turn(pen)
        except Stopped:
            self.begin_anew(name)
        return pen.written() > 0 or self.standing.best() != best

    def run(self, *names, room=None):
        """Let the workers take turns in this order; return the list of what the turns return."""
        for name in names:
            check_name(name, NAMES)
        return [self.turn(name, room=room) for name in names]

    def begin_anew(self, name):
        """Replace the worker by a new one."""
        check_name(name, NAMES)
        self.workers[name] = new_worker(name)

    def settle(self, name):
        """Let the worker take turns until the workshop is at rest."""
        check_name(name, SETTLING)
        while not self.at_rest():
            self.turn(name)

    def offer(self, step):
        """Offer the step to the ledger and return the number of the entry."""
        return self.ledger.offer(step)

    def show(self, point):
        """Show the point to the standing; return True if it is held from now on."""
        return self.standing.show(point)

    def put(self, label, body):
        """Add a constraint to the model."""
        self.ledger.put(label, body)
        self.standing.refresh()

    def withdraw(self, label):
        """Remove a constraint from the model."""
        self.ledger.withdraw(label)
        self.standing.refresh()

    def move(self, v, low, high):
        """Set the bounds of an unknown of the model."""
        self.ledger.move(v, low, high)
        self.standing.refresh()

    def aim(self, goal):
        """Set the goal of the model."""
        self.ledger.aim(goal)
        self.standing.refresh()

    def best(self):
        """Return the value and the point that is held, or None."""
        return self.standing.best()

    def bound(self):
        """Return the best value that the model may still have, as far as it is known, or None."""
        return bound_of(self.ledger)

    def has_none(self):
        """Return True if the model is known to have no solution."""
        return contradiction_in(self.ledger) is not None

    def at_rest(self):
        """Return True if the answer is known."""
        best = self.best()
        return self.has_none() or (best is not None and best[0] == self.bound())

    def check_rest(self):
        """Raise Unfinished unless the answer is known."""
        if not self.at_rest():
            raise Unfinished()

    def answer(self):
        """Return ("none",) or ("best", worth, point)."""
        self.check_rest()
        if self.has_none():
            return ("none",)
        worth, point = self.best()
        return ("best", worth, point)

    def certificate(self):
        """Return the certificate that shows the answer."""
        self.check_rest()
        if self.has_none():
            return ("none", cut(self.ledger, contradiction_in(self.ledger)))
        worth, point = self.best()
        return ("best", point, cut(self.ledger, entry_for(self.ledger, worth)))
