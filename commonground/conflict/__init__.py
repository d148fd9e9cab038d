"""Conflicts and repairs: which constraints a model cannot satisfy together, and which to give up."""
