"""Drawers that lock one another, for all rows of pulls."""
