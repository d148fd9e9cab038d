"""Exact linear programs: ratios, tableaus, optima and roundings."""
