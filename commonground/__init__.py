"""Commonground: workers of different kinds that solve one model by one ledger of derived facts."""
