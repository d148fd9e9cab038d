"""The workers, who derive facts and look for solutions."""
