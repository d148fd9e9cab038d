"""The ends of the box of a ledger, with the entries that state them."""

from commonground.workers.closing import all_sides, sides_against
from commonground.workers.ends import Ends
from commonground.workers.narrowing import bound_row, half_lines, keeps


class Bounds:
    """The box of a ledger, narrowed by one entry after the other.

    A side is named by the terms of the row that states it. Where the model itself states an end, there is no entry.
    """

    def __init__(self, model):
        self.ends = Ends(model)
        self.stating = {}

    def box(self):
        """Return the box as it is now; it changes with the bounds."""
        return self.ends.box()

    def take(self, literal, i):
        """Cut off the values that do not satisfy the literal, which entry i states; return False if none is left."""
        for bound in half_lines(literal):
            if not keeps(self.box(), bound):
                self.stating[bound_row(bound)[1]] = i
                if not self.ends.cut(bound):
                    return False
        return True

    def hints(self, sides):
        """Return the entries that state these sides, each once."""
        numbers = {self.stating[side]: True for side in sides if side in self.stating}
        return tuple(numbers)

    def hints_about(self, unknowns):
        """Return the entries that state the ends of these unknowns."""
        return self.hints(all_sides(unknowns))

    def hints_against(self, fact, bound):
        """Return the entries by which the fact leads to the bound."""
        # Where the bound fails, its unknown lies beyond it, so its other end need not be stated.
        v, relation, _ = bound
        other = ((v, -1 if relation == "<=" else 1),)
        return self.hints([side for side in sides_against(fact) if side != other])
