"""Linkneed: units compiled apart, linked into the fewest registers."""
