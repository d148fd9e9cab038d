"""Written models, facts, steps and certificates."""
