"""The workshop: one ledger, one standing best point, and six workers."""
