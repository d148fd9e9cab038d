"""Facts, the steps that derive them, and the judge."""
