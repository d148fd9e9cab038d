"""The linear worker, who solves the relaxation and writes what its optimum tells about the goal."""

from commonground.exact.ratio import floor_of
from commonground.exact.simplex import optimum
from commonground.ledger.bounding import contradiction_in
from commonground.workers.combining import write_combination, write_divided
from commonground.workers.relaxation import relaxation


class Linear:
    """A worker that remembers nothing from one turn to the next."""

    def turn(self, pen):
        """Write the bound of the relaxation, or a contradiction, and return True if an entry was written."""
        written = pen.written()
        ledger = pen.ledger
        program = relaxation(ledger)
        lows, highs, rows, aim = program
        told = optimum(lows, highs, rows, aim)
        if told[0] == "none":
            if contradiction_in(ledger) is None:
                write_combination(pen, program, told[1])
        else:
            _, worth, _, scale, weights = told
            if ledger.find(("row", aim, floor_of(worth))) is None:
                write_divided(pen, program, scale, weights)
        return pen.written() > written
