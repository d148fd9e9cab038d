"""The charting worker, who shows the best point of the diagram of the model."""

from commonground.diagram.build import diagram_of
from commonground.diagram.reading import best_of
from commonground.errors import TooLarge


class Chart:
    """A worker that writes nothing and remembers nothing from one turn to the next."""

    def turn(self, pen):
        """Show the best point, and return True if it is better than the one held."""
        model = pen.ledger.model
        try:
            diagram = diagram_of(model)
        except TooLarge:
            return False
        best = best_of(diagram, model.goal())
        if best is None:
            return False
        return pen.standing.show(best[1])
