"""Models: unknowns, constraints and a goal."""
