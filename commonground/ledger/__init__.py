"""The ledger of derived facts, and what is kept beside it."""
