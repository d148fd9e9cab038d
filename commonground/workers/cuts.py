"""The cutting worker, who writes rows that cut off the best position of the relaxation."""

from commonground.exact.simplex import rounding
from commonground.workers.combining import write_divided
from commonground.workers.relaxation import relaxation


class Cuts:
    """A worker that remembers nothing from one turn to the next."""

    def turn(self, pen):
        """Write a row that the best position violates, if it is no point, and return True if an entry was written."""
        written = pen.written()
        program = relaxation(pen.ledger)
        lows, highs, rows, aim = program
        told = rounding(lows, highs, rows, aim)
        if told is not None:
            scale, weights = told
            write_divided(pen, program, scale, weights)
        return pen.written() > written
